/- Two shapes touch if they have a point in common. -/
import Derived.Test.YtnkebpbpempmhaaTchM
import Derived.Test.YtnkebpbpempmhaaShD
import Derived.Test.YtnkebpbpempmhaaDrawT1
import Derived.Test.YtnkebpbpempmhaaITch9
import Derived.Test.YtnkebpbpempmhaaSpanN
import Derived.Handy
import Derived.Deep.RegionHeld3
import Derived.Deep.DeepCutAuto
import Derived.Test.YtnkebpbpempmhaaFacts
import Derived.ProofKit
import Derived.OpenShut
import Derived.ShutString
import Derived.ChangeOld
import Derived.Lib.SmallJoins
namespace Go.Proofs.Ytnkebpbpempmhaa
open Go.RowKit
set_option linter.unusedVariables false
set_option linter.unusedSimpArgs false
theorem sq_add (a b : Int) : (a + b) * (a + b) = a * a + b * b + 2 * (a * b) := by
  simp only [Int.add_mul, Int.mul_add]; rw [Int.mul_comm b a]; omega
theorem sq_abs_mono {a b : Int} (h : a.natAbs ≤ b.natAbs) : a * a ≤ b * b := by
  have q := sq_mono (a := (a.natAbs : Int)) (b := (b.natAbs : Int)) (by omega) (by omega)
  rw [Int.natAbs_mul_self', Int.natAbs_mul_self'] at q
  exact q
theorem tri_le {x y u v A B : Int} (hA : 0 ≤ A) (hB : 0 ≤ B) (h1 : x * x + y * y ≤ A * A) (h2 : u * u + v * v ≤ B * B) : (x + u) * (x + u) + (y + v) * (y + v) ≤ (A + B) * (A + B) := by
  have e := cs_id x y u v
  have s1 := sq_nonneg (x * v - y * u)
  have p1 := sq_nonneg x
  have p2 := sq_nonneg y
  have p3 := sq_nonneg u
  have p4 := sq_nonneg v
  have m : (x * x + y * y) * (u * u + v * v) ≤ A * A * (B * B) := Int.mul_le_mul h1 h2 (by omega) (sq_nonneg A)
  have k : (x * u + y * v) * (x * u + y * v) ≤ A * B * (A * B) := by rw [mul4 A B A B]; omega
  have c := (sq_abs_le (Int.mul_nonneg hA hB) k).2
  have e1 := sq_add x u
  have e2 := sq_add y v
  have e3 := sq_add A B
  omega
theorem hasV_r1 {g h x y u v : Int} (e : hasV 1 g h x y u v = true) : (u - x) * (u - x) + (v - y) * (v - y) ≤ g * g := by
  unfold hasV at e; simpa using e
theorem hasV_b2 {g h x y u v : Int} (e : hasV 2 g h x y u v = true) : (x - g ≤ u ∧ u ≤ x + g) ∧ (y - h ≤ v ∧ v ≤ y + h) := by
  rw [← hasV_b] at e; simp only [decide_eq_true_eq] at e; omega
/-- what is round reaches a point of a box: it touches the box -/
theorem mx_point {a b c d x y g p q : Int} (hp : a ≤ p ∧ p ≤ c) (hq : b ≤ q ∧ q ≤ d) (hr : (p - x) * (p - x) + (q - y) * (q - y) ≤ g * g) : (mxT a b c d x y g).2 = true := by
  unfold mxT
  split
  · rfl
  · have h1 : (x - mn (mx x a) c).natAbs ≤ (p - x).natAbs := by unfold mn mx; repeat' split <;> omega
    have h2 : (y - mn (mx y b) d).natAbs ≤ (q - y).natAbs := by unfold mn mx; repeat' split <;> omega
    have k1 := sq_abs_mono h1
    have k2 := sq_abs_mono h2
    unfold rdT
    rw [if_pos (by omega)]
theorem touch_point {k g h x y m c d u v X Y D p q : Int} {K : Bool} (e : toT k g h x y m c d u v = ((X, Y, D), K)) (h1 : shV k g h x y p q = true) (h2 : shV m c d u v p q = true) : K = true := by
  unfold shV at h1 h2
  simp only [Bool.and_eq_true] at h1 h2
  obtain ⟨s1, p1, _, v1⟩ := h1
  obtain ⟨s2, p2, _, v2⟩ := h2
  have t1 : toT k g h x y m c d u v = tcT k g h x y m c d u v := by unfold toT; rw [if_pos (by simp [*])]
  rw [t1] at e
  have eK : (tcT k g h x y m c d u v).2 = K := by rw [e]
  rw [← eK]
  clear e eK t1
  rcases shB_kinds s1 with ⟨rfl, rfl, a0, a1⟩ | ⟨rfl, a0, a1, a2, a3⟩
  · have f1 := hasV_r1 v1
    rcases shB_kinds s2 with ⟨rfl, rfl, b0, b1⟩ | ⟨rfl, b0, b1, b2, b3⟩
    · have f2 := hasV_r1 v2
      have q1 : tcT 1 g 0 x y 1 c 0 u v = rdT (u - x) (v - y) (g + c) := by unfold tcT; simp
      rw [q1]
      have f3 : (u - p) * (u - p) + (v - q) * (v - q) ≤ c * c := by
        have z1 : (u - p) * (u - p) = (p - u) * (p - u) := by rw [← Int.neg_mul_neg, Int.neg_sub]
        have z2 : (v - q) * (v - q) = (q - v) * (q - v) := by rw [← Int.neg_mul_neg, Int.neg_sub]
        omega
      have f4 := tri_le (by omega) (by omega) f1 f3
      rw [show p - x + (u - p) = u - x by omega, show q - y + (v - q) = v - y by omega] at f4
      unfold rdT
      rw [if_pos f4]
    · have f2 := hasV_b2 v2
      have q1 : tcT 1 g 0 x y 2 c d u v = tnT (mxT (u - c) (v - d) (u + c) (v + d) x y g) := by unfold tcT; simp
      rw [q1, tn_facts.1]
      exact mx_point f2.1 f2.2 f1
  · have f1 := hasV_b2 v1
    rcases shB_kinds s2 with ⟨rfl, rfl, b0, b1⟩ | ⟨rfl, b0, b1, b2, b3⟩
    · have f2 := hasV_r1 v2
      have q1 : tcT 2 g h x y 1 c 0 u v = mxT (x - g) (y - h) (x + g) (y + h) u v c := by unfold tcT; simp
      rw [q1]
      exact mx_point f1.1 f1.2 f2
    · have f2 := hasV_b2 v2
      have q1 : tcT 2 g h x y 2 c d u v = bxT (x - g) (y - h) (x + g) (y + h) (u - c) (v - d) (u + c) (v + d) := by unfold tcT; simp
      rw [q1]
      unfold bxT leB
      rw [if_pos (by simp only [Bool.and_eq_true, decide_eq_true_eq]; omega)]
end Go.Proofs.Ytnkebpbpempmhaa
namespace Go.Proofs.Ytnkebpbpempmhaa
open Go.RowKit
set_option linter.unusedVariables false
set_option linter.unusedSimpArgs false

theorem shb2_q (k g h x y A B C D : Int) (w : World) (eA : sbA k g h x y = A) (eB : sbB k g h x y = B) (eC : sbC k g h x y = C) (eD : sbD k g h x y = D) :
    Calls Try.prog 21 #[s3 k g h, vv x y] w fun e w' => e = .returned (b4 A B C D) ∧ Below w.heap.size w w' := by
  subst eA; subst eB; subst eC; subst eD; exact shapeBounds_any k g h x y w
theorem near_q (a b c d x y N M : Int) (w : World) (e1 : bb (bokB a b c d && vokB x y) (mn (mx x a) c) = N) (e2 : bb (bokB a b c d && vokB x y) (mn (mx y b) d) = M) :
    Calls Try.prog 23 #[b4 a b c d, vv x y] w fun e w' => e = .returned (vv N M) ∧ Below w.heap.size w w' := by
  subst e1; subst e2; exact boxNear_any a b c d x y w
theorem has_q (k g h x y u v : Int) (b : Bool) (w : World) (e : shV k g h x y u v = b) :
    Calls Try.prog 24 #[s3 k g h, vv x y, vv u v] w fun e w' => e = .returned (.bool b) ∧ Below w.heap.size w w' := by
  subst e; exact shapeHas_any k g h x y u v w
theorem half_bd {n : Int} (h : -8000000000 ≤ n ∧ n ≤ 8000000000) : -8000000000 ≤ n.tdiv 2 ∧ n.tdiv 2 ≤ 8000000000 := tdiv_bd 2 h
set_option maxRecDepth 20000 in
set_option maxHeartbeats 8000000 in
theorem fnTouchPoint_walk (a : Option Addr) (len cap : Nat) (w : World) (hb : Bytes w a len cap) :
    Calls Try.prog 5 #[.slice a len cap] w fun e w' => e = .returned (.bool true) ∧ Below w.heap.size w w' := by
  have hset := cset_map
  go_enter Try.func5, Try.ntmps5
  go_upto_region 4 with (go_at_call 17; refine (drawTouch_any _ _ _ _ hb).mono ?_; rintro e w1 ⟨k, g, h, x, y, m, c, d, u, v, rfl, ⟨nk, ng, nh⟩, ⟨nx, ny⟩, ⟨nm, nc, nd⟩, ⟨nu, nv⟩, hb1⟩)
  · go_wp2_with fail
    go_ret
    exact ⟨rfl, Below.refl _ _⟩
  have hA : AL w ((((w1.alloc (.cells #[.int .i64 k, .int .i64 g, .int .i64 h] 34)).alloc (.cells #[.int .i64 x, .int .i64 y] 24)).alloc (.cells #[.int .i64 m, .int .i64 c, .int .i64 d] 34)).alloc (.cells #[.int .i64 u, .int .i64 v] 24)) [(w1.heap.size + 1 + 1 + 1, 2, (fun j => [u, v].getD j 0)), (w1.heap.size + 1 + 1, 3, (fun j => [m, c, d].getD j 0)), (w1.heap.size + 1, 2, (fun j => [x, y].getD j 0)), (w1.heap.size, 3, (fun j => [k, g, h].getD j 0))] := ((((((AL.nil w).call hb1).new (w1.heap.size) 3 (fun j => [k, g, h].getD j 0) (by simp) (by intro i hi; rcases (show i = 0 ∨ i = 1 ∨ i = 2 by omega) with rfl | rfl | rfl <;> rfl)).new (w1.heap.size + 1) 2 (fun j => [x, y].getD j 0) (by simp) (by intro i hi; rcases (show i = 0 ∨ i = 1 by omega) with rfl | rfl <;> rfl)).new (w1.heap.size + 1 + 1) 3 (fun j => [m, c, d].getD j 0) (by simp) (by intro i hi; rcases (show i = 0 ∨ i = 1 ∨ i = 2 by omega) with rfl | rfl | rfl <;> rfl)).new (w1.heap.size + 1 + 1 + 1) 2 (fun j => [u, v].getD j 0) (by simp) (by intro i hi; rcases (show i = 0 ∨ i = 1 by omega) with rfl | rfl <;> rfl))
  generalize ((((w1.alloc (.cells #[.int .i64 k, .int .i64 g, .int .i64 h] 34)).alloc (.cells #[.int .i64 x, .int .i64 y] 24)).alloc (.cells #[.int .i64 m, .int .i64 c, .int .i64 d] 34)).alloc (.cells #[.int .i64 u, .int .i64 v] 24)) = w0 at *
  generalize w1.heap.size = ab at *
  clear hb1 hb w1
  obtain ⟨⟨X, Y, D⟩, K, e1⟩ : ∃ F K, toT k g h x y m c d u v = (F, K) := ⟨_, _, rfl⟩
  have gq40 : Al w w0 (ab) 3 (fun j => [k, g, h].getD j 0) := hA.get (x := (ab, 3, (fun j => [k, g, h].getD j 0))) (by simp)
  have cq4x0c0 := (gq40).2.2.1 0 (by omega)
  have cq4x0f0 := (gq40).2.2.2 0 (by omega)
  have cq4x0c1 := (gq40).2.2.1 1 (by omega)
  have cq4x0f1 := (gq40).2.2.2 1 (by omega)
  have cq4x0c2 := (gq40).2.2.1 2 (by omega)
  have cq4x0f2 := (gq40).2.2.2 2 (by omega)
  clear gq40
  have gq41 : Al w w0 (ab + 1) 2 (fun j => [x, y].getD j 0) := hA.get (x := (ab + 1, 2, (fun j => [x, y].getD j 0))) (by simp)
  have cq4x1c0 := (gq41).2.2.1 0 (by omega)
  have cq4x1f0 := (gq41).2.2.2 0 (by omega)
  have cq4x1c1 := (gq41).2.2.1 1 (by omega)
  have cq4x1f1 := (gq41).2.2.2 1 (by omega)
  clear gq41
  have gq42 : Al w w0 (ab + 1 + 1) 3 (fun j => [m, c, d].getD j 0) := hA.get (x := (ab + 1 + 1, 3, (fun j => [m, c, d].getD j 0))) (by simp)
  have cq4x2c0 := (gq42).2.2.1 0 (by omega)
  have cq4x2f0 := (gq42).2.2.2 0 (by omega)
  have cq4x2c1 := (gq42).2.2.1 1 (by omega)
  have cq4x2f1 := (gq42).2.2.2 1 (by omega)
  have cq4x2c2 := (gq42).2.2.1 2 (by omega)
  have cq4x2f2 := (gq42).2.2.2 2 (by omega)
  clear gq42
  have gq43 : Al w w0 (ab + 1 + 1 + 1) 2 (fun j => [u, v].getD j 0) := hA.get (x := (ab + 1 + 1 + 1, 2, (fun j => [u, v].getD j 0))) (by simp)
  have cq4x3c0 := (gq43).2.2.1 0 (by omega)
  have cq4x3f0 := (gq43).2.2.2 0 (by omega)
  have cq4x3c1 := (gq43).2.2.1 1 (by omega)
  have cq4x3f1 := (gq43).2.2.2 1 (by omega)
  clear gq43
  go_upto_region 4 with fail
  go_cut [7, 8] (fun s7 s8 wc => ∃ (ha : Nat), s7 = .pointer (some ⟨ha, 0, none⟩) ∧ s8 = .bool K ∧ (ab + 1 + 1 + 1 < ha) ∧ AL w wc [(ha, 3, (fun j => [X, Y, D].getD j 0)), (ab + 1 + 1 + 1, 2, (fun j => [u, v].getD j 0)), (ab + 1 + 1, 3, (fun j => [m, c, d].getD j 0)), (ab + 1, 2, (fun j => [x, y].getD j 0)), (ab, 3, (fun j => [k, g, h].getD j 0))])
  case first =>
    go_wp2_with (go_at_call 18; refine (touch_q k g h x y m c d u v X Y D K _ (by with_reducible assumption)).mono ?_; rintro e w2 ⟨rfl, hb2⟩)
    go_meet
    have hA2 := hA.call hb2
    have l0 : ab + 1 + 1 + 1 < w2.heap.size := hA2.lt (x := (ab + 1 + 1 + 1, 2, (fun j => [u, v].getD j 0))) (by simp)
    
    exact ⟨_, rfl, rfl, (by omega), hA2.new _ 3 _ rfl (by intro i hi; rcases (show i = 0 ∨ i = 1 ∨ i = 2 by omega) with rfl | rfl | rfl <;> rfl)⟩
  case rest =>
  clear hA cq4x0c0 cq4x0f0 cq4x0c1 cq4x0f1 cq4x0c2 cq4x0f2 cq4x1c0 cq4x1f0 cq4x1c1 cq4x1f1 cq4x2c0 cq4x2f0 cq4x2c1 cq4x2f1 cq4x2c2 cq4x2f2 cq4x3c0 cq4x3f0 cq4x3c1 cq4x3f1
  obtain ⟨ha, rfl, rfl, lha, hA⟩ := hcut
  have gq50 : Al w wc (ab) 3 (fun j => [k, g, h].getD j 0) := hA.get (x := (ab, 3, (fun j => [k, g, h].getD j 0))) (by simp)
  have cq5x0c0 := (gq50).2.2.1 0 (by omega)
  have cq5x0f0 := (gq50).2.2.2 0 (by omega)
  have cq5x0c1 := (gq50).2.2.1 1 (by omega)
  have cq5x0f1 := (gq50).2.2.2 1 (by omega)
  have cq5x0c2 := (gq50).2.2.1 2 (by omega)
  have cq5x0f2 := (gq50).2.2.2 2 (by omega)
  clear gq50
  have gq51 : Al w wc (ab + 1) 2 (fun j => [x, y].getD j 0) := hA.get (x := (ab + 1, 2, (fun j => [x, y].getD j 0))) (by simp)
  have cq5x1c0 := (gq51).2.2.1 0 (by omega)
  have cq5x1f0 := (gq51).2.2.2 0 (by omega)
  have cq5x1c1 := (gq51).2.2.1 1 (by omega)
  have cq5x1f1 := (gq51).2.2.2 1 (by omega)
  clear gq51
  have gq52 : Al w wc (ab + 1 + 1) 3 (fun j => [m, c, d].getD j 0) := hA.get (x := (ab + 1 + 1, 3, (fun j => [m, c, d].getD j 0))) (by simp)
  have cq5x2c0 := (gq52).2.2.1 0 (by omega)
  have cq5x2f0 := (gq52).2.2.2 0 (by omega)
  have cq5x2c1 := (gq52).2.2.1 1 (by omega)
  have cq5x2f1 := (gq52).2.2.2 1 (by omega)
  have cq5x2c2 := (gq52).2.2.1 2 (by omega)
  have cq5x2f2 := (gq52).2.2.2 2 (by omega)
  clear gq52
  have gq53 : Al w wc (ab + 1 + 1 + 1) 2 (fun j => [u, v].getD j 0) := hA.get (x := (ab + 1 + 1 + 1, 2, (fun j => [u, v].getD j 0))) (by simp)
  have cq5x3c0 := (gq53).2.2.1 0 (by omega)
  have cq5x3f0 := (gq53).2.2.2 0 (by omega)
  have cq5x3c1 := (gq53).2.2.1 1 (by omega)
  have cq5x3f1 := (gq53).2.2.2 1 (by omega)
  clear gq53
  go_upto_region 5 with fail
  go_cut [9, 10] (fun s9 s10 wc => ∃ (hc : Nat), s9 = .pointer (some ⟨hc, 0, none⟩) ∧ s10 = .bool K ∧ (ab + 1 + 1 + 1 < hc ∧ ha < hc) ∧ AL w wc [(hc, 3, (fun j => [X, Y, D].getD j 0)), (ha, 3, (fun j => [X, Y, D].getD j 0)), (ab + 1 + 1 + 1, 2, (fun j => [u, v].getD j 0)), (ab + 1 + 1, 3, (fun j => [m, c, d].getD j 0)), (ab + 1, 2, (fun j => [x, y].getD j 0)), (ab, 3, (fun j => [k, g, h].getD j 0))])
  case first =>
    go_wp2_with (go_at_call 19; refine (sTouch_q k g h x y m c d u v X Y D K _ (by with_reducible assumption)).mono ?_; rintro e w2 ⟨rfl, hb2⟩)
    go_meet
    have hA2 := hA.call hb2
    have l0 : ab + 1 + 1 + 1 < w2.heap.size := hA2.lt (x := (ab + 1 + 1 + 1, 2, (fun j => [u, v].getD j 0))) (by simp)
    have l1 : ha < w2.heap.size := hA2.lt (x := (ha, 3, (fun j => [X, Y, D].getD j 0))) (by simp)
    exact ⟨_, rfl, rfl, (by omega), hA2.new _ 3 _ rfl (by intro i hi; rcases (show i = 0 ∨ i = 1 ∨ i = 2 by omega) with rfl | rfl | rfl <;> rfl)⟩
  case rest =>
  clear hA cq5x0c0 cq5x0f0 cq5x0c1 cq5x0f1 cq5x0c2 cq5x0f2 cq5x1c0 cq5x1f0 cq5x1c1 cq5x1f1 cq5x2c0 cq5x2f0 cq5x2c1 cq5x2f1 cq5x2c2 cq5x2f2 cq5x3c0 cq5x3f0 cq5x3c1 cq5x3f1
  obtain ⟨hc, rfl, rfl, ⟨lhc, lhcha⟩, hA⟩ := hcut
  have hA := hA.sub (M := [(ab + 1 + 1 + 1, 2, (fun j => [u, v].getD j 0)), (ab + 1 + 1, 3, (fun j => [m, c, d].getD j 0)), (ab + 1, 2, (fun j => [x, y].getD j 0)), (ab, 3, (fun j => [k, g, h].getD j 0))]) (by intro x hx; simp only [List.mem_cons, List.not_mem_nil, or_false] at hx; rcases hx with rfl | rfl | rfl | rfl <;> simp)
  have gz0 : Al w wc (ab) 3 (fun j => [k, g, h].getD j 0) := hA.get (x := (ab, 3, (fun j => [k, g, h].getD j 0))) (by simp)
  have czx0c0 := (gz0).2.2.1 0 (by omega)
  have czx0f0 := (gz0).2.2.2 0 (by omega)
  have czx0c1 := (gz0).2.2.1 1 (by omega)
  have czx0f1 := (gz0).2.2.2 1 (by omega)
  have czx0c2 := (gz0).2.2.1 2 (by omega)
  have czx0f2 := (gz0).2.2.2 2 (by omega)
  clear gz0
  have gz1 : Al w wc (ab + 1) 2 (fun j => [x, y].getD j 0) := hA.get (x := (ab + 1, 2, (fun j => [x, y].getD j 0))) (by simp)
  have czx1c0 := (gz1).2.2.1 0 (by omega)
  have czx1f0 := (gz1).2.2.2 0 (by omega)
  have czx1c1 := (gz1).2.2.1 1 (by omega)
  have czx1f1 := (gz1).2.2.2 1 (by omega)
  clear gz1
  have gz2 : Al w wc (ab + 1 + 1) 3 (fun j => [m, c, d].getD j 0) := hA.get (x := (ab + 1 + 1, 3, (fun j => [m, c, d].getD j 0))) (by simp)
  have czx2c0 := (gz2).2.2.1 0 (by omega)
  have czx2f0 := (gz2).2.2.2 0 (by omega)
  have czx2c1 := (gz2).2.2.1 1 (by omega)
  have czx2f1 := (gz2).2.2.2 1 (by omega)
  have czx2c2 := (gz2).2.2.1 2 (by omega)
  have czx2f2 := (gz2).2.2.2 2 (by omega)
  clear gz2
  have gz3 : Al w wc (ab + 1 + 1 + 1) 2 (fun j => [u, v].getD j 0) := hA.get (x := (ab + 1 + 1 + 1, 2, (fun j => [u, v].getD j 0))) (by simp)
  have czx3c0 := (gz3).2.2.1 0 (by omega)
  have czx3f0 := (gz3).2.2.2 0 (by omega)
  have czx3c1 := (gz3).2.2.1 1 (by omega)
  have czx3f1 := (gz3).2.2.2 1 (by omega)
  clear gz3
  have shut1 : Shut (toT k g h x y m c d u v = ((X, Y, D), K)) := e1
  clear e1
  cases s1 : shB k g h with
  | false =>
    go_wp2_with (first
    | (have _ := hb5; go_at_call 22; refine (sShapeOk_z m c d _ _ s2).mono ?_; rintro e w6 ⟨rfl, hb6⟩; have hA6 := hA5.call hb6; have gv60 : Al w w6 (ab) 3 (fun j => [k, g, h].getD j 0) := hA6.get (x := (ab, 3, (fun j => [k, g, h].getD j 0))) (by simp); have cv6x0c0 := (gv60).2.2.1 0 (by omega); have cv6x0f0 := (gv60).2.2.2 0 (by omega); have cv6x0c1 := (gv60).2.2.1 1 (by omega); have cv6x0f1 := (gv60).2.2.2 1 (by omega); have cv6x0c2 := (gv60).2.2.1 2 (by omega); have cv6x0f2 := (gv60).2.2.2 2 (by omega); clear gv60; have gv61 : Al w w6 (ab + 1) 2 (fun j => [x, y].getD j 0) := hA6.get (x := (ab + 1, 2, (fun j => [x, y].getD j 0))) (by simp); have cv6x1c0 := (gv61).2.2.1 0 (by omega); have cv6x1f0 := (gv61).2.2.2 0 (by omega); have cv6x1c1 := (gv61).2.2.1 1 (by omega); have cv6x1f1 := (gv61).2.2.2 1 (by omega); clear gv61; have gv62 : Al w w6 (ab + 1 + 1) 3 (fun j => [m, c, d].getD j 0) := hA6.get (x := (ab + 1 + 1, 3, (fun j => [m, c, d].getD j 0))) (by simp); have cv6x2c0 := (gv62).2.2.1 0 (by omega); have cv6x2f0 := (gv62).2.2.2 0 (by omega); have cv6x2c1 := (gv62).2.2.1 1 (by omega); have cv6x2f1 := (gv62).2.2.2 1 (by omega); have cv6x2c2 := (gv62).2.2.1 2 (by omega); have cv6x2f2 := (gv62).2.2.2 2 (by omega); clear gv62; have gv63 : Al w w6 (ab + 1 + 1 + 1) 2 (fun j => [u, v].getD j 0) := hA6.get (x := (ab + 1 + 1 + 1, 2, (fun j => [u, v].getD j 0))) (by simp); have cv6x3c0 := (gv63).2.2.1 0 (by omega); have cv6x3f0 := (gv63).2.2.2 0 (by omega); have cv6x3c1 := (gv63).2.2.1 1 (by omega); have cv6x3f1 := (gv63).2.2.2 1 (by omega); clear gv63)
    | (go_at_call 22; refine (sShapeOk_z k g h _ _ s1).mono ?_; rintro e w5 ⟨rfl, hb5⟩; have hA5 := hA.call hb5; have gv50 : Al w w5 (ab) 3 (fun j => [k, g, h].getD j 0) := hA5.get (x := (ab, 3, (fun j => [k, g, h].getD j 0))) (by simp); have cv5x0c0 := (gv50).2.2.1 0 (by omega); have cv5x0f0 := (gv50).2.2.2 0 (by omega); have cv5x0c1 := (gv50).2.2.1 1 (by omega); have cv5x0f1 := (gv50).2.2.2 1 (by omega); have cv5x0c2 := (gv50).2.2.1 2 (by omega); have cv5x0f2 := (gv50).2.2.2 2 (by omega); clear gv50; have gv51 : Al w w5 (ab + 1) 2 (fun j => [x, y].getD j 0) := hA5.get (x := (ab + 1, 2, (fun j => [x, y].getD j 0))) (by simp); have cv5x1c0 := (gv51).2.2.1 0 (by omega); have cv5x1f0 := (gv51).2.2.2 0 (by omega); have cv5x1c1 := (gv51).2.2.1 1 (by omega); have cv5x1f1 := (gv51).2.2.2 1 (by omega); clear gv51; have gv52 : Al w w5 (ab + 1 + 1) 3 (fun j => [m, c, d].getD j 0) := hA5.get (x := (ab + 1 + 1, 3, (fun j => [m, c, d].getD j 0))) (by simp); have cv5x2c0 := (gv52).2.2.1 0 (by omega); have cv5x2f0 := (gv52).2.2.2 0 (by omega); have cv5x2c1 := (gv52).2.2.1 1 (by omega); have cv5x2f1 := (gv52).2.2.2 1 (by omega); have cv5x2c2 := (gv52).2.2.1 2 (by omega); have cv5x2f2 := (gv52).2.2.2 2 (by omega); clear gv52; have gv53 : Al w w5 (ab + 1 + 1 + 1) 2 (fun j => [u, v].getD j 0) := hA5.get (x := (ab + 1 + 1 + 1, 2, (fun j => [u, v].getD j 0))) (by simp); have cv5x3c0 := (gv53).2.2.1 0 (by omega); have cv5x3f0 := (gv53).2.2.2 0 (by omega); have cv5x3c1 := (gv53).2.2.1 1 (by omega); have cv5x3f1 := (gv53).2.2.2 1 (by omega); clear gv53))
    go_ret
    exact ⟨ret_bool (by cases K <;> rfl), hA5.bel⟩
  | true =>
  cases s2 : shB m c d with
  | false =>
    go_wp2_with (first
    | (have _ := hb5; go_at_call 22; refine (sShapeOk_z m c d _ _ s2).mono ?_; rintro e w6 ⟨rfl, hb6⟩; have hA6 := hA5.call hb6; have gv60 : Al w w6 (ab) 3 (fun j => [k, g, h].getD j 0) := hA6.get (x := (ab, 3, (fun j => [k, g, h].getD j 0))) (by simp); have cv6x0c0 := (gv60).2.2.1 0 (by omega); have cv6x0f0 := (gv60).2.2.2 0 (by omega); have cv6x0c1 := (gv60).2.2.1 1 (by omega); have cv6x0f1 := (gv60).2.2.2 1 (by omega); have cv6x0c2 := (gv60).2.2.1 2 (by omega); have cv6x0f2 := (gv60).2.2.2 2 (by omega); clear gv60; have gv61 : Al w w6 (ab + 1) 2 (fun j => [x, y].getD j 0) := hA6.get (x := (ab + 1, 2, (fun j => [x, y].getD j 0))) (by simp); have cv6x1c0 := (gv61).2.2.1 0 (by omega); have cv6x1f0 := (gv61).2.2.2 0 (by omega); have cv6x1c1 := (gv61).2.2.1 1 (by omega); have cv6x1f1 := (gv61).2.2.2 1 (by omega); clear gv61; have gv62 : Al w w6 (ab + 1 + 1) 3 (fun j => [m, c, d].getD j 0) := hA6.get (x := (ab + 1 + 1, 3, (fun j => [m, c, d].getD j 0))) (by simp); have cv6x2c0 := (gv62).2.2.1 0 (by omega); have cv6x2f0 := (gv62).2.2.2 0 (by omega); have cv6x2c1 := (gv62).2.2.1 1 (by omega); have cv6x2f1 := (gv62).2.2.2 1 (by omega); have cv6x2c2 := (gv62).2.2.1 2 (by omega); have cv6x2f2 := (gv62).2.2.2 2 (by omega); clear gv62; have gv63 : Al w w6 (ab + 1 + 1 + 1) 2 (fun j => [u, v].getD j 0) := hA6.get (x := (ab + 1 + 1 + 1, 2, (fun j => [u, v].getD j 0))) (by simp); have cv6x3c0 := (gv63).2.2.1 0 (by omega); have cv6x3f0 := (gv63).2.2.2 0 (by omega); have cv6x3c1 := (gv63).2.2.1 1 (by omega); have cv6x3f1 := (gv63).2.2.2 1 (by omega); clear gv63)
    | (go_at_call 22; refine (sShapeOk_z k g h _ _ s1).mono ?_; rintro e w5 ⟨rfl, hb5⟩; have hA5 := hA.call hb5; have gv50 : Al w w5 (ab) 3 (fun j => [k, g, h].getD j 0) := hA5.get (x := (ab, 3, (fun j => [k, g, h].getD j 0))) (by simp); have cv5x0c0 := (gv50).2.2.1 0 (by omega); have cv5x0f0 := (gv50).2.2.2 0 (by omega); have cv5x0c1 := (gv50).2.2.1 1 (by omega); have cv5x0f1 := (gv50).2.2.2 1 (by omega); have cv5x0c2 := (gv50).2.2.1 2 (by omega); have cv5x0f2 := (gv50).2.2.2 2 (by omega); clear gv50; have gv51 : Al w w5 (ab + 1) 2 (fun j => [x, y].getD j 0) := hA5.get (x := (ab + 1, 2, (fun j => [x, y].getD j 0))) (by simp); have cv5x1c0 := (gv51).2.2.1 0 (by omega); have cv5x1f0 := (gv51).2.2.2 0 (by omega); have cv5x1c1 := (gv51).2.2.1 1 (by omega); have cv5x1f1 := (gv51).2.2.2 1 (by omega); clear gv51; have gv52 : Al w w5 (ab + 1 + 1) 3 (fun j => [m, c, d].getD j 0) := hA5.get (x := (ab + 1 + 1, 3, (fun j => [m, c, d].getD j 0))) (by simp); have cv5x2c0 := (gv52).2.2.1 0 (by omega); have cv5x2f0 := (gv52).2.2.2 0 (by omega); have cv5x2c1 := (gv52).2.2.1 1 (by omega); have cv5x2f1 := (gv52).2.2.2 1 (by omega); have cv5x2c2 := (gv52).2.2.1 2 (by omega); have cv5x2f2 := (gv52).2.2.2 2 (by omega); clear gv52; have gv53 : Al w w5 (ab + 1 + 1 + 1) 2 (fun j => [u, v].getD j 0) := hA5.get (x := (ab + 1 + 1 + 1, 2, (fun j => [u, v].getD j 0))) (by simp); have cv5x3c0 := (gv53).2.2.1 0 (by omega); have cv5x3f0 := (gv53).2.2.2 0 (by omega); have cv5x3c1 := (gv53).2.2.1 1 (by omega); have cv5x3f1 := (gv53).2.2.2 1 (by omega); clear gv53))
    go_ret
    exact ⟨ret_bool (by cases K <;> rfl), hA6.bel⟩
  | true =>
  unfold Bn at nx ny
  unfold B4 at nu nv
  have hp1 := half_bd (n := x + u) (by omega)
  have hp2 := half_bd (n := y + v) (by omega)
  obtain ⟨P, eP⟩ : ∃ P, (x + u).tdiv 2 = P := ⟨_, rfl⟩
  obtain ⟨Q, eQ⟩ : ∃ Q, (y + v).tdiv 2 = Q := ⟨_, rfl⟩
  rw [eP] at hp1
  rw [eQ] at hp2
  have wa := i64w (n := x + u) (by omega)
  have wb := i64w (n := y + v) (by omega)
  have wp := i64w (n := P) (by omega)
  have wq := i64w (n := Q) (by omega)
  go_upto_region 8 with (first
    | (have _ := hb5; go_at_call 22; refine (sShapeOk_z m c d _ _ s2).mono ?_; rintro e w6 ⟨rfl, hb6⟩; have hA6 := hA5.call hb6; have gv60 : Al w w6 (ab) 3 (fun j => [k, g, h].getD j 0) := hA6.get (x := (ab, 3, (fun j => [k, g, h].getD j 0))) (by simp); have cv6x0c0 := (gv60).2.2.1 0 (by omega); have cv6x0f0 := (gv60).2.2.2 0 (by omega); have cv6x0c1 := (gv60).2.2.1 1 (by omega); have cv6x0f1 := (gv60).2.2.2 1 (by omega); have cv6x0c2 := (gv60).2.2.1 2 (by omega); have cv6x0f2 := (gv60).2.2.2 2 (by omega); clear gv60; have gv61 : Al w w6 (ab + 1) 2 (fun j => [x, y].getD j 0) := hA6.get (x := (ab + 1, 2, (fun j => [x, y].getD j 0))) (by simp); have cv6x1c0 := (gv61).2.2.1 0 (by omega); have cv6x1f0 := (gv61).2.2.2 0 (by omega); have cv6x1c1 := (gv61).2.2.1 1 (by omega); have cv6x1f1 := (gv61).2.2.2 1 (by omega); clear gv61; have gv62 : Al w w6 (ab + 1 + 1) 3 (fun j => [m, c, d].getD j 0) := hA6.get (x := (ab + 1 + 1, 3, (fun j => [m, c, d].getD j 0))) (by simp); have cv6x2c0 := (gv62).2.2.1 0 (by omega); have cv6x2f0 := (gv62).2.2.2 0 (by omega); have cv6x2c1 := (gv62).2.2.1 1 (by omega); have cv6x2f1 := (gv62).2.2.2 1 (by omega); have cv6x2c2 := (gv62).2.2.1 2 (by omega); have cv6x2f2 := (gv62).2.2.2 2 (by omega); clear gv62; have gv63 : Al w w6 (ab + 1 + 1 + 1) 2 (fun j => [u, v].getD j 0) := hA6.get (x := (ab + 1 + 1 + 1, 2, (fun j => [u, v].getD j 0))) (by simp); have cv6x3c0 := (gv63).2.2.1 0 (by omega); have cv6x3f0 := (gv63).2.2.2 0 (by omega); have cv6x3c1 := (gv63).2.2.1 1 (by omega); have cv6x3f1 := (gv63).2.2.2 1 (by omega); clear gv63)
    | (go_at_call 22; refine (sShapeOk_z k g h _ _ s1).mono ?_; rintro e w5 ⟨rfl, hb5⟩; have hA5 := hA.call hb5; have gv50 : Al w w5 (ab) 3 (fun j => [k, g, h].getD j 0) := hA5.get (x := (ab, 3, (fun j => [k, g, h].getD j 0))) (by simp); have cv5x0c0 := (gv50).2.2.1 0 (by omega); have cv5x0f0 := (gv50).2.2.2 0 (by omega); have cv5x0c1 := (gv50).2.2.1 1 (by omega); have cv5x0f1 := (gv50).2.2.2 1 (by omega); have cv5x0c2 := (gv50).2.2.1 2 (by omega); have cv5x0f2 := (gv50).2.2.2 2 (by omega); clear gv50; have gv51 : Al w w5 (ab + 1) 2 (fun j => [x, y].getD j 0) := hA5.get (x := (ab + 1, 2, (fun j => [x, y].getD j 0))) (by simp); have cv5x1c0 := (gv51).2.2.1 0 (by omega); have cv5x1f0 := (gv51).2.2.2 0 (by omega); have cv5x1c1 := (gv51).2.2.1 1 (by omega); have cv5x1f1 := (gv51).2.2.2 1 (by omega); clear gv51; have gv52 : Al w w5 (ab + 1 + 1) 3 (fun j => [m, c, d].getD j 0) := hA5.get (x := (ab + 1 + 1, 3, (fun j => [m, c, d].getD j 0))) (by simp); have cv5x2c0 := (gv52).2.2.1 0 (by omega); have cv5x2f0 := (gv52).2.2.2 0 (by omega); have cv5x2c1 := (gv52).2.2.1 1 (by omega); have cv5x2f1 := (gv52).2.2.2 1 (by omega); have cv5x2c2 := (gv52).2.2.1 2 (by omega); have cv5x2f2 := (gv52).2.2.2 2 (by omega); clear gv52; have gv53 : Al w w5 (ab + 1 + 1 + 1) 2 (fun j => [u, v].getD j 0) := hA5.get (x := (ab + 1 + 1 + 1, 2, (fun j => [u, v].getD j 0))) (by simp); have cv5x3c0 := (gv53).2.2.1 0 (by omega); have cv5x3f0 := (gv53).2.2.2 0 (by omega); have cv5x3c1 := (gv53).2.2.1 1 (by omega); have cv5x3f1 := (gv53).2.2.2 1 (by omega); clear gv53))
  go_cut [11] (fun s11 wc => ∃ (pb : Nat), s11 = .pointer (some ⟨pb, 0, none⟩) ∧ (ab + 1 + 1 + 1 < pb) ∧ AL w wc [(pb, 2, (fun j => [P, Q].getD j 0)), (ab + 1 + 1 + 1, 2, (fun j => [u, v].getD j 0)), (ab + 1 + 1, 3, (fun j => [m, c, d].getD j 0)), (ab + 1, 2, (fun j => [x, y].getD j 0)), (ab, 3, (fun j => [k, g, h].getD j 0))])
  case first =>
    go_wp2_with fail
    go_meet
    have l0 : ab + 1 + 1 + 1 < w6.heap.size := hA6.lt (x := (ab + 1 + 1 + 1, 2, (fun j => [u, v].getD j 0))) (by simp)
    exact ⟨_, rfl, l0, hA6.new _ 2 _ rfl (by intro i hi; rcases (show i = 0 ∨ i = 1 by omega) with rfl | rfl <;> rfl)⟩
  case rest =>
  clear hA hA5 hA6 eP eQ
  obtain ⟨pb, rfl, lpb, hA⟩ := hcut
  obtain ⟨A1, z1⟩ : ∃ A1, sbA k g h x y = A1 := ⟨_, rfl⟩
  obtain ⟨B1, z2⟩ : ∃ A1, sbB k g h x y = A1 := ⟨_, rfl⟩
  obtain ⟨C1, z3⟩ : ∃ A1, sbC k g h x y = A1 := ⟨_, rfl⟩
  obtain ⟨D1, z4⟩ : ∃ A1, sbD k g h x y = A1 := ⟨_, rfl⟩
  obtain ⟨N, z5⟩ : ∃ N, bb (bokB A1 B1 C1 D1 && vokB u v) (mn (mx u A1) C1) = N := ⟨_, rfl⟩
  obtain ⟨M, z6⟩ : ∃ N, bb (bokB A1 B1 C1 D1 && vokB u v) (mn (mx v B1) D1) = N := ⟨_, rfl⟩
  have gy0 : Al w wc (ab) 3 (fun j => [k, g, h].getD j 0) := hA.get (x := (ab, 3, (fun j => [k, g, h].getD j 0))) (by simp)
  have cyx0c0 := (gy0).2.2.1 0 (by omega)
  have cyx0f0 := (gy0).2.2.2 0 (by omega)
  have cyx0c1 := (gy0).2.2.1 1 (by omega)
  have cyx0f1 := (gy0).2.2.2 1 (by omega)
  have cyx0c2 := (gy0).2.2.1 2 (by omega)
  have cyx0f2 := (gy0).2.2.2 2 (by omega)
  clear gy0
  have gy1 : Al w wc (ab + 1) 2 (fun j => [x, y].getD j 0) := hA.get (x := (ab + 1, 2, (fun j => [x, y].getD j 0))) (by simp)
  have cyx1c0 := (gy1).2.2.1 0 (by omega)
  have cyx1f0 := (gy1).2.2.2 0 (by omega)
  have cyx1c1 := (gy1).2.2.1 1 (by omega)
  have cyx1f1 := (gy1).2.2.2 1 (by omega)
  clear gy1
  have gy2 : Al w wc (ab + 1 + 1) 3 (fun j => [m, c, d].getD j 0) := hA.get (x := (ab + 1 + 1, 3, (fun j => [m, c, d].getD j 0))) (by simp)
  have cyx2c0 := (gy2).2.2.1 0 (by omega)
  have cyx2f0 := (gy2).2.2.2 0 (by omega)
  have cyx2c1 := (gy2).2.2.1 1 (by omega)
  have cyx2f1 := (gy2).2.2.2 1 (by omega)
  have cyx2c2 := (gy2).2.2.1 2 (by omega)
  have cyx2f2 := (gy2).2.2.2 2 (by omega)
  clear gy2
  have gy3 : Al w wc (ab + 1 + 1 + 1) 2 (fun j => [u, v].getD j 0) := hA.get (x := (ab + 1 + 1 + 1, 2, (fun j => [u, v].getD j 0))) (by simp)
  have cyx3c0 := (gy3).2.2.1 0 (by omega)
  have cyx3f0 := (gy3).2.2.2 0 (by omega)
  have cyx3c1 := (gy3).2.2.1 1 (by omega)
  have cyx3f1 := (gy3).2.2.2 1 (by omega)
  clear gy3
  go_upto_region 9 with fail
  go_cut [12] (fun s12 wc => ∃ (nb : Nat), s12 = .pointer (some ⟨nb, 0, none⟩) ∧ (ab + 1 + 1 + 1 < nb ∧ pb < nb) ∧ AL w wc [(nb, 2, (fun j => if j = 1 then M else (fun j => if j = 0 then N else (fun _ => 0) j) j)), (pb, 2, (fun j => [P, Q].getD j 0)), (ab + 1 + 1 + 1, 2, (fun j => [u, v].getD j 0)), (ab + 1 + 1, 3, (fun j => [m, c, d].getD j 0)), (ab + 1, 2, (fun j => [x, y].getD j 0)), (ab, 3, (fun j => [k, g, h].getD j 0))])
  case first =>
    refine wp_region_held_drew (S := fun w' => w'.cell? ⟨ab, 0, none⟩ = some (.int .i64 k) ∧ w'.cell? ⟨ab, 1, none⟩ = some (.int .i64 g) ∧ w'.cell? ⟨ab, 2, none⟩ = some (.int .i64 h) ∧ w'.cell? ⟨ab + 1, 0, none⟩ = some (.int .i64 x) ∧ w'.cell? ⟨ab + 1, 1, none⟩ = some (.int .i64 y) ∧ w'.cell? ⟨ab + 1 + 1 + 1, 0, none⟩ = some (.int .i64 u) ∧ w'.cell? ⟨ab + 1 + 1 + 1, 1, none⟩ = some (.int .i64 v)) (by kernel_rfl) ?_ (fun hHeld => ?_)
    · (try dsimp only)
      (first | (go_simp; done) | (go_keep; done))
    (refine wpAnyH_take (i := 0) (oi := { dst := some 70, op := Go.Op.load 34 (Go.Operand.tmp 3), type := 34, pos := "laws.go:493", after := #[], guard := none }) (v := ?_) rfl (by kernel_rfl) (by kernel_rfl) (by kernel_rfl) (fun _ _ _ h => h) (Or.inl ⟨by rfl, ?_⟩) hHeld ?_; rotate_left; (focus ((intro w hSw; (try dsimp only at hSw); go_simp); (try with_reducible rfl); done)); (try simp only [Act.put, List.setIfInBounds_toArray, List.set_cons_zero, List.set_cons_succ]))
    (refine wpAnyH_take (i := 1) (oi := { dst := some 71, op := Go.Op.load 24 (Go.Operand.tmp 4), type := 24, pos := "laws.go:493", after := #[], guard := none }) (v := ?_) rfl (by kernel_rfl) (by kernel_rfl) (by kernel_rfl) (fun _ _ _ h => h) (Or.inl ⟨by rfl, ?_⟩) hHeld ?_; rotate_left; (focus ((intro w hSw; (try dsimp only at hSw); go_simp); (try with_reducible rfl); done)); (try simp only [Act.put, List.setIfInBounds_toArray, List.set_cons_zero, List.set_cons_succ]))
    (refine wpAnyH_take (i := 3) (oi := { dst := some 73, op := Go.Op.load 24 (Go.Operand.tmp 6), type := 24, pos := "laws.go:493", after := #[], guard := none }) (v := ?_) rfl (by kernel_rfl) (by kernel_rfl) (by kernel_rfl) (fun _ _ _ h => h) (Or.inl ⟨by rfl, ?_⟩) hHeld ?_; rotate_left; (focus ((intro w hSw; (try dsimp only at hSw); go_simp); (try with_reducible rfl); done)); (try simp only [Act.put, List.setIfInBounds_toArray, List.set_cons_zero, List.set_cons_succ]))
    refine wpAnyH_ready (rs := [2, 5]) (by kernel_rfl) (by simp) ?_
    refine AllReadyH.cons (o := { dst := some 72, op := Go.Op.call { callee := Go.Callee.value (Go.Operand.func 21), args := #[Go.Operand.tmp 70, Go.Operand.tmp 71], argTypes := #[34, 24] }, type := 26, pos := "laws.go:493", after := #[{ on := 0, ground := Go.Ground.data }, { on := 1, ground := Go.Ground.data }], guard := none }) rfl (fun K hK => ?_) (AllReadyH.cons (o := { dst := some 12, op := Go.Op.alloc 24, type := 0, pos := "laws.go:493", after := #[], guard := none }) rfl (fun K hK => ?_) AllReadyH.nil)
    · (go_simp; (go_at_call 21; refine (shb2_q _ _ _ _ _ A1 B1 C1 D1 _ (by with_reducible assumption) (by with_reducible assumption) (by with_reducible assumption) (by with_reducible assumption)).mono ?_; rintro e w2 ⟨rfl, hb2⟩; have hA2 := hA.drew.call hb2; have gt20 : Al w w2 (ab) 3 (fun j => [k, g, h].getD j 0) := hA2.get (x := (ab, 3, (fun j => [k, g, h].getD j 0))) (by simp); have ct2x0c0 := (gt20).2.2.1 0 (by omega); have ct2x0f0 := (gt20).2.2.2 0 (by omega); have ct2x0c1 := (gt20).2.2.1 1 (by omega); have ct2x0f1 := (gt20).2.2.2 1 (by omega); have ct2x0c2 := (gt20).2.2.1 2 (by omega); have ct2x0f2 := (gt20).2.2.2 2 (by omega); clear gt20; have gt21 : Al w w2 (ab + 1) 2 (fun j => [x, y].getD j 0) := hA2.get (x := (ab + 1, 2, (fun j => [x, y].getD j 0))) (by simp); have ct2x1c0 := (gt21).2.2.1 0 (by omega); have ct2x1f0 := (gt21).2.2.2 0 (by omega); have ct2x1c1 := (gt21).2.2.1 1 (by omega); have ct2x1f1 := (gt21).2.2.2 1 (by omega); clear gt21; have gt22 : Al w w2 (ab + 1 + 1) 3 (fun j => [m, c, d].getD j 0) := hA2.get (x := (ab + 1 + 1, 3, (fun j => [m, c, d].getD j 0))) (by simp); have ct2x2c0 := (gt22).2.2.1 0 (by omega); have ct2x2f0 := (gt22).2.2.2 0 (by omega); have ct2x2c1 := (gt22).2.2.1 1 (by omega); have ct2x2f1 := (gt22).2.2.2 1 (by omega); have ct2x2c2 := (gt22).2.2.1 2 (by omega); have ct2x2f2 := (gt22).2.2.2 2 (by omega); clear gt22; have gt23 : Al w w2 (ab + 1 + 1 + 1) 2 (fun j => [u, v].getD j 0) := hA2.get (x := (ab + 1 + 1 + 1, 2, (fun j => [u, v].getD j 0))) (by simp); have ct2x3c0 := (gt23).2.2.1 0 (by omega); have ct2x3f0 := (gt23).2.2.2 0 (by omega); have ct2x3c1 := (gt23).2.2.1 1 (by omega); have ct2x3f1 := (gt23).2.2.2 1 (by omega); clear gt23); (try go_wp2_with fail); refine hK.out _ _ ?_ (fun hHeld => ?_); (focus ((try dsimp only); (first | (go_simp; done) | (go_keep; done)))); clear hK K; (try simp only [Act.put, List.setIfInBounds_toArray, List.set_cons_zero, List.set_cons_succ]))
      refine wpAnyH_ready (rs := [4, 5]) (by kernel_rfl) (by simp) ?_
      refine AllReadyH.cons (o := { dst := some 74, op := Go.Op.call { callee := Go.Callee.value (Go.Operand.func 23), args := #[Go.Operand.tmp 72, Go.Operand.tmp 73], argTypes := #[26, 24] }, type := 24, pos := "laws.go:493", after := #[{ on := 2, ground := Go.Ground.data }, { on := 3, ground := Go.Ground.data }, { on := 2, ground := Go.Ground.chain }], guard := none }) rfl (fun K hK => ?_) (AllReadyH.cons (o := { dst := some 12, op := Go.Op.alloc 24, type := 0, pos := "laws.go:493", after := #[], guard := none }) rfl (fun K hK => ?_) AllReadyH.nil)
      · (go_simp; (go_at_call 23; refine (near_q _ _ _ _ _ _ N M _ (by with_reducible assumption) (by with_reducible assumption)).mono ?_; rintro e w4 ⟨rfl, hb4⟩; have hA4 := hA2.call hb4; have gt40 : Al w w4 (ab) 3 (fun j => [k, g, h].getD j 0) := hA4.get (x := (ab, 3, (fun j => [k, g, h].getD j 0))) (by simp); have ct4x0c0 := (gt40).2.2.1 0 (by omega); have ct4x0f0 := (gt40).2.2.2 0 (by omega); have ct4x0c1 := (gt40).2.2.1 1 (by omega); have ct4x0f1 := (gt40).2.2.2 1 (by omega); have ct4x0c2 := (gt40).2.2.1 2 (by omega); have ct4x0f2 := (gt40).2.2.2 2 (by omega); clear gt40; have gt41 : Al w w4 (ab + 1) 2 (fun j => [x, y].getD j 0) := hA4.get (x := (ab + 1, 2, (fun j => [x, y].getD j 0))) (by simp); have ct4x1c0 := (gt41).2.2.1 0 (by omega); have ct4x1f0 := (gt41).2.2.2 0 (by omega); have ct4x1c1 := (gt41).2.2.1 1 (by omega); have ct4x1f1 := (gt41).2.2.2 1 (by omega); clear gt41; have gt42 : Al w w4 (ab + 1 + 1) 3 (fun j => [m, c, d].getD j 0) := hA4.get (x := (ab + 1 + 1, 3, (fun j => [m, c, d].getD j 0))) (by simp); have ct4x2c0 := (gt42).2.2.1 0 (by omega); have ct4x2f0 := (gt42).2.2.2 0 (by omega); have ct4x2c1 := (gt42).2.2.1 1 (by omega); have ct4x2f1 := (gt42).2.2.2 1 (by omega); have ct4x2c2 := (gt42).2.2.1 2 (by omega); have ct4x2f2 := (gt42).2.2.2 2 (by omega); clear gt42; have gt43 : Al w w4 (ab + 1 + 1 + 1) 2 (fun j => [u, v].getD j 0) := hA4.get (x := (ab + 1 + 1 + 1, 2, (fun j => [u, v].getD j 0))) (by simp); have ct4x3c0 := (gt43).2.2.1 0 (by omega); have ct4x3f0 := (gt43).2.2.2 0 (by omega); have ct4x3c1 := (gt43).2.2.1 1 (by omega); have ct4x3f1 := (gt43).2.2.2 1 (by omega); clear gt43); (try go_wp2_with fail); refine hK.out _ _ ?_ (fun hHeld => ?_); (focus ((try dsimp only); (first | (go_simp; done) | (go_keep; done)))); clear hK K; (try simp only [Act.put, List.setIfInBounds_toArray, List.set_cons_zero, List.set_cons_succ]))
        refine wpAnyH_ready (rs := [5]) (by kernel_rfl) (by simp) ?_
        refine AllReadyH.cons (o := { dst := some 12, op := Go.Op.alloc 24, type := 0, pos := "laws.go:493", after := #[], guard := none }) rfl (fun K hK => ?_) AllReadyH.nil
        (go_simp; refine hK.out _ _ ?_ (fun hHeld => ?_); (focus ((try dsimp only); (first | (go_simp; done) | (go_keep; done)))); clear hK K; (try simp only [Act.put, List.setIfInBounds_toArray, List.set_cons_zero, List.set_cons_succ]))
        obtain ⟨nb, enb⟩ : ∃ nb, w4.heap.size = nb := ⟨_, rfl⟩
        have lnb : ab + 1 + 1 + 1 < nb := by have := hA4.lt (x := (ab + 1 + 1 + 1, 2, (fun j => [u, v].getD j 0))) (by simp); rw [← enb]; exact this
        have lnb2 : pb < nb := by have := hA4.lt (x := (pb, 2, (fun j => [P, Q].getD j 0))) (by simp); rw [← enb]; exact this
        have hA5 := (hA4.new nb 2 (fun _ => 0) (t := 24) (cs := #[.int .i64 0, .int .i64 0]) enb.symm (by intro i hi; rcases (show i = 0 ∨ i = 1 by omega) with rfl | rfl <;> rfl))
        rw [enb]
        generalize (w4.alloc (.cells #[.int .i64 0, .int .i64 0] 24)) = w5 at *
        clear enb
        have gt50 : Al w w5 (ab) 3 (fun j => [k, g, h].getD j 0) := hA5.get (x := (ab, 3, (fun j => [k, g, h].getD j 0))) (by simp)
        have ct5x0c0 := (gt50).2.2.1 0 (by omega)
        have ct5x0f0 := (gt50).2.2.2 0 (by omega)
        have ct5x0c1 := (gt50).2.2.1 1 (by omega)
        have ct5x0f1 := (gt50).2.2.2 1 (by omega)
        have ct5x0c2 := (gt50).2.2.1 2 (by omega)
        have ct5x0f2 := (gt50).2.2.2 2 (by omega)
        clear gt50
        have gt51 : Al w w5 (ab + 1) 2 (fun j => [x, y].getD j 0) := hA5.get (x := (ab + 1, 2, (fun j => [x, y].getD j 0))) (by simp)
        have ct5x1c0 := (gt51).2.2.1 0 (by omega)
        have ct5x1f0 := (gt51).2.2.2 0 (by omega)
        have ct5x1c1 := (gt51).2.2.1 1 (by omega)
        have ct5x1f1 := (gt51).2.2.2 1 (by omega)
        clear gt51
        have gt52 : Al w w5 (ab + 1 + 1) 3 (fun j => [m, c, d].getD j 0) := hA5.get (x := (ab + 1 + 1, 3, (fun j => [m, c, d].getD j 0))) (by simp)
        have ct5x2c0 := (gt52).2.2.1 0 (by omega)
        have ct5x2f0 := (gt52).2.2.2 0 (by omega)
        have ct5x2c1 := (gt52).2.2.1 1 (by omega)
        have ct5x2f1 := (gt52).2.2.2 1 (by omega)
        have ct5x2c2 := (gt52).2.2.1 2 (by omega)
        have ct5x2f2 := (gt52).2.2.2 2 (by omega)
        clear gt52
        have gt53 : Al w w5 (ab + 1 + 1 + 1) 2 (fun j => [u, v].getD j 0) := hA5.get (x := (ab + 1 + 1 + 1, 2, (fun j => [u, v].getD j 0))) (by simp)
        have ct5x3c0 := (gt53).2.2.1 0 (by omega)
        have ct5x3f0 := (gt53).2.2.2 0 (by omega)
        have ct5x3c1 := (gt53).2.2.1 1 (by omega)
        have ct5x3f1 := (gt53).2.2.2 1 (by omega)
        clear gt53
        have gh5 : Al w w5 nb 2 (fun _ => 0) := hA5.get (x := (nb, 2, (fun _ => 0))) (by simp)
        have gh5xc0 := (gh5).2.2.1 0 (by omega)
        have gh5xf0 := (gh5).2.2.2 0 (by omega)
        have gh5xc1 := (gh5).2.2.1 1 (by omega)
        have gh5xf1 := (gh5).2.2.2 1 (by omega)
        clear gh5
        refine wpAnyH_ready (rs := [6]) (by kernel_rfl) (by simp) ?_
        refine AllReadyH.cons (o := { dst := none, op := Go.Op.store 24 (Go.Operand.tmp 12) (Go.Operand.tmp 74), type := 0, pos := "laws.go:493", after := #[{ on := 5, ground := Go.Ground.data }, { on := 4, ground := Go.Ground.data }, { on := 4, ground := Go.Ground.chain }, { on := 0, ground := Go.Ground.phase }, { on := 1, ground := Go.Ground.phase }, { on := 2, ground := Go.Ground.phase }, { on := 3, ground := Go.Ground.phase }, { on := 4, ground := Go.Ground.phase }, { on := 5, ground := Go.Ground.phase }], guard := none }) rfl (fun K hK => ?_) AllReadyH.nil
        (go_simp; refine hK.out _ _ ?_ (fun hHeld => ?_); (focus ((try dsimp only); (first | (go_simp; done) | (go_keep; done)))); clear hK K; (try simp only [Act.put, List.setIfInBounds_toArray, List.set_cons_zero, List.set_cons_succ]))
        refine wpAnyH_done (by kernel_rfl) ?_ _
        go_wp2_with fail
        go_meet
        exact ⟨nb, rfl, ⟨lnb, lnb2⟩, ((hA5.set (by intro x hx; simp only [List.mem_cons, List.not_mem_nil, or_false] at hx; rcases hx with rfl | rfl | rfl | rfl | rfl <;> dsimp only <;> omega) 0 (by omega) N).set (by intro x hx; simp only [List.mem_cons, List.not_mem_nil, or_false] at hx; rcases hx with rfl | rfl | rfl | rfl | rfl <;> dsimp only <;> omega) 1 (by omega) M)⟩
      · (go_simp; refine hK.out _ _ ?_ (fun hHeld => ?_); (focus ((try dsimp only); (first | (go_simp; done) | (go_keep; done)))); clear hK K; (try simp only [Act.put, List.setIfInBounds_toArray, List.set_cons_zero, List.set_cons_succ]))
        obtain ⟨nb, enb⟩ : ∃ nb, w2.heap.size = nb := ⟨_, rfl⟩
        have lnb : ab + 1 + 1 + 1 < nb := by have := hA2.lt (x := (ab + 1 + 1 + 1, 2, (fun j => [u, v].getD j 0))) (by simp); rw [← enb]; exact this
        have lnb2 : pb < nb := by have := hA2.lt (x := (pb, 2, (fun j => [P, Q].getD j 0))) (by simp); rw [← enb]; exact this
        have hA5 := (hA2.new nb 2 (fun _ => 0) (t := 24) (cs := #[.int .i64 0, .int .i64 0]) enb.symm (by intro i hi; rcases (show i = 0 ∨ i = 1 by omega) with rfl | rfl <;> rfl))
        rw [enb]
        generalize (w2.alloc (.cells #[.int .i64 0, .int .i64 0] 24)) = w5 at *
        clear enb
        have gt50 : Al w w5 (ab) 3 (fun j => [k, g, h].getD j 0) := hA5.get (x := (ab, 3, (fun j => [k, g, h].getD j 0))) (by simp)
        have ct5x0c0 := (gt50).2.2.1 0 (by omega)
        have ct5x0f0 := (gt50).2.2.2 0 (by omega)
        have ct5x0c1 := (gt50).2.2.1 1 (by omega)
        have ct5x0f1 := (gt50).2.2.2 1 (by omega)
        have ct5x0c2 := (gt50).2.2.1 2 (by omega)
        have ct5x0f2 := (gt50).2.2.2 2 (by omega)
        clear gt50
        have gt51 : Al w w5 (ab + 1) 2 (fun j => [x, y].getD j 0) := hA5.get (x := (ab + 1, 2, (fun j => [x, y].getD j 0))) (by simp)
        have ct5x1c0 := (gt51).2.2.1 0 (by omega)
        have ct5x1f0 := (gt51).2.2.2 0 (by omega)
        have ct5x1c1 := (gt51).2.2.1 1 (by omega)
        have ct5x1f1 := (gt51).2.2.2 1 (by omega)
        clear gt51
        have gt52 : Al w w5 (ab + 1 + 1) 3 (fun j => [m, c, d].getD j 0) := hA5.get (x := (ab + 1 + 1, 3, (fun j => [m, c, d].getD j 0))) (by simp)
        have ct5x2c0 := (gt52).2.2.1 0 (by omega)
        have ct5x2f0 := (gt52).2.2.2 0 (by omega)
        have ct5x2c1 := (gt52).2.2.1 1 (by omega)
        have ct5x2f1 := (gt52).2.2.2 1 (by omega)
        have ct5x2c2 := (gt52).2.2.1 2 (by omega)
        have ct5x2f2 := (gt52).2.2.2 2 (by omega)
        clear gt52
        have gt53 : Al w w5 (ab + 1 + 1 + 1) 2 (fun j => [u, v].getD j 0) := hA5.get (x := (ab + 1 + 1 + 1, 2, (fun j => [u, v].getD j 0))) (by simp)
        have ct5x3c0 := (gt53).2.2.1 0 (by omega)
        have ct5x3f0 := (gt53).2.2.2 0 (by omega)
        have ct5x3c1 := (gt53).2.2.1 1 (by omega)
        have ct5x3f1 := (gt53).2.2.2 1 (by omega)
        clear gt53
        have gh5 : Al w w5 nb 2 (fun _ => 0) := hA5.get (x := (nb, 2, (fun _ => 0))) (by simp)
        have gh5xc0 := (gh5).2.2.1 0 (by omega)
        have gh5xf0 := (gh5).2.2.2 0 (by omega)
        have gh5xc1 := (gh5).2.2.1 1 (by omega)
        have gh5xf1 := (gh5).2.2.2 1 (by omega)
        clear gh5
        refine wpAnyH_ready (rs := [4]) (by kernel_rfl) (by simp) ?_
        refine AllReadyH.cons (o := { dst := some 74, op := Go.Op.call { callee := Go.Callee.value (Go.Operand.func 23), args := #[Go.Operand.tmp 72, Go.Operand.tmp 73], argTypes := #[26, 24] }, type := 24, pos := "laws.go:493", after := #[{ on := 2, ground := Go.Ground.data }, { on := 3, ground := Go.Ground.data }, { on := 2, ground := Go.Ground.chain }], guard := none }) rfl (fun K hK => ?_) AllReadyH.nil
        (go_simp; (go_at_call 23; refine (near_q _ _ _ _ _ _ N M _ (by with_reducible assumption) (by with_reducible assumption)).mono ?_; rintro e w4 ⟨rfl, hb4⟩; have hA4 := hA5.call hb4; have gt40 : Al w w4 (ab) 3 (fun j => [k, g, h].getD j 0) := hA4.get (x := (ab, 3, (fun j => [k, g, h].getD j 0))) (by simp); have ct4x0c0 := (gt40).2.2.1 0 (by omega); have ct4x0f0 := (gt40).2.2.2 0 (by omega); have ct4x0c1 := (gt40).2.2.1 1 (by omega); have ct4x0f1 := (gt40).2.2.2 1 (by omega); have ct4x0c2 := (gt40).2.2.1 2 (by omega); have ct4x0f2 := (gt40).2.2.2 2 (by omega); clear gt40; have gt41 : Al w w4 (ab + 1) 2 (fun j => [x, y].getD j 0) := hA4.get (x := (ab + 1, 2, (fun j => [x, y].getD j 0))) (by simp); have ct4x1c0 := (gt41).2.2.1 0 (by omega); have ct4x1f0 := (gt41).2.2.2 0 (by omega); have ct4x1c1 := (gt41).2.2.1 1 (by omega); have ct4x1f1 := (gt41).2.2.2 1 (by omega); clear gt41; have gt42 : Al w w4 (ab + 1 + 1) 3 (fun j => [m, c, d].getD j 0) := hA4.get (x := (ab + 1 + 1, 3, (fun j => [m, c, d].getD j 0))) (by simp); have ct4x2c0 := (gt42).2.2.1 0 (by omega); have ct4x2f0 := (gt42).2.2.2 0 (by omega); have ct4x2c1 := (gt42).2.2.1 1 (by omega); have ct4x2f1 := (gt42).2.2.2 1 (by omega); have ct4x2c2 := (gt42).2.2.1 2 (by omega); have ct4x2f2 := (gt42).2.2.2 2 (by omega); clear gt42; have gt43 : Al w w4 (ab + 1 + 1 + 1) 2 (fun j => [u, v].getD j 0) := hA4.get (x := (ab + 1 + 1 + 1, 2, (fun j => [u, v].getD j 0))) (by simp); have ct4x3c0 := (gt43).2.2.1 0 (by omega); have ct4x3f0 := (gt43).2.2.2 0 (by omega); have ct4x3c1 := (gt43).2.2.1 1 (by omega); have ct4x3f1 := (gt43).2.2.2 1 (by omega); clear gt43; have gh4 : Al w w4 nb 2 (fun _ => 0) := hA4.get (x := (nb, 2, (fun _ => 0))) (by simp); have gh4xc0 := (gh4).2.2.1 0 (by omega); have gh4xf0 := (gh4).2.2.2 0 (by omega); have gh4xc1 := (gh4).2.2.1 1 (by omega); have gh4xf1 := (gh4).2.2.2 1 (by omega); clear gh4); (try go_wp2_with fail); refine hK.out _ _ ?_ (fun hHeld => ?_); (focus ((try dsimp only); (first | (go_simp; done) | (go_keep; done)))); clear hK K; (try simp only [Act.put, List.setIfInBounds_toArray, List.set_cons_zero, List.set_cons_succ]))
        refine wpAnyH_ready (rs := [6]) (by kernel_rfl) (by simp) ?_
        refine AllReadyH.cons (o := { dst := none, op := Go.Op.store 24 (Go.Operand.tmp 12) (Go.Operand.tmp 74), type := 0, pos := "laws.go:493", after := #[{ on := 5, ground := Go.Ground.data }, { on := 4, ground := Go.Ground.data }, { on := 4, ground := Go.Ground.chain }, { on := 0, ground := Go.Ground.phase }, { on := 1, ground := Go.Ground.phase }, { on := 2, ground := Go.Ground.phase }, { on := 3, ground := Go.Ground.phase }, { on := 4, ground := Go.Ground.phase }, { on := 5, ground := Go.Ground.phase }], guard := none }) rfl (fun K hK => ?_) AllReadyH.nil
        (go_simp; refine hK.out _ _ ?_ (fun hHeld => ?_); (focus ((try dsimp only); (first | (go_simp; done) | (go_keep; done)))); clear hK K; (try simp only [Act.put, List.setIfInBounds_toArray, List.set_cons_zero, List.set_cons_succ]))
        refine wpAnyH_done (by kernel_rfl) ?_ _
        go_wp2_with fail
        go_meet
        exact ⟨nb, rfl, ⟨lnb, lnb2⟩, ((hA4.set (by intro x hx; simp only [List.mem_cons, List.not_mem_nil, or_false] at hx; rcases hx with rfl | rfl | rfl | rfl | rfl <;> dsimp only <;> omega) 0 (by omega) N).set (by intro x hx; simp only [List.mem_cons, List.not_mem_nil, or_false] at hx; rcases hx with rfl | rfl | rfl | rfl | rfl <;> dsimp only <;> omega) 1 (by omega) M)⟩
    · (go_simp; refine hK.out _ _ ?_ (fun hHeld => ?_); (focus ((try dsimp only); (first | (go_simp; done) | (go_keep; done)))); clear hK K; (try simp only [Act.put, List.setIfInBounds_toArray, List.set_cons_zero, List.set_cons_succ]))
      obtain ⟨nb, enb⟩ : ∃ nb, wc.heap.size = nb := ⟨_, rfl⟩
      have lnb : ab + 1 + 1 + 1 < nb := by have := hA.lt (x := (ab + 1 + 1 + 1, 2, (fun j => [u, v].getD j 0))) (by simp); rw [← enb]; exact this
      have lnb2 : pb < nb := by have := hA.lt (x := (pb, 2, (fun j => [P, Q].getD j 0))) (by simp); rw [← enb]; exact this
      have hA5 := (hA.new nb 2 (fun _ => 0) (t := 24) (cs := #[.int .i64 0, .int .i64 0]) enb.symm (by intro i hi; rcases (show i = 0 ∨ i = 1 by omega) with rfl | rfl <;> rfl)).drew
      rw [enb]
      generalize (wc.alloc (.cells #[.int .i64 0, .int .i64 0] 24)).drew = w5 at *
      clear enb
      have gt50 : Al w w5 (ab) 3 (fun j => [k, g, h].getD j 0) := hA5.get (x := (ab, 3, (fun j => [k, g, h].getD j 0))) (by simp)
      have ct5x0c0 := (gt50).2.2.1 0 (by omega)
      have ct5x0f0 := (gt50).2.2.2 0 (by omega)
      have ct5x0c1 := (gt50).2.2.1 1 (by omega)
      have ct5x0f1 := (gt50).2.2.2 1 (by omega)
      have ct5x0c2 := (gt50).2.2.1 2 (by omega)
      have ct5x0f2 := (gt50).2.2.2 2 (by omega)
      clear gt50
      have gt51 : Al w w5 (ab + 1) 2 (fun j => [x, y].getD j 0) := hA5.get (x := (ab + 1, 2, (fun j => [x, y].getD j 0))) (by simp)
      have ct5x1c0 := (gt51).2.2.1 0 (by omega)
      have ct5x1f0 := (gt51).2.2.2 0 (by omega)
      have ct5x1c1 := (gt51).2.2.1 1 (by omega)
      have ct5x1f1 := (gt51).2.2.2 1 (by omega)
      clear gt51
      have gt52 : Al w w5 (ab + 1 + 1) 3 (fun j => [m, c, d].getD j 0) := hA5.get (x := (ab + 1 + 1, 3, (fun j => [m, c, d].getD j 0))) (by simp)
      have ct5x2c0 := (gt52).2.2.1 0 (by omega)
      have ct5x2f0 := (gt52).2.2.2 0 (by omega)
      have ct5x2c1 := (gt52).2.2.1 1 (by omega)
      have ct5x2f1 := (gt52).2.2.2 1 (by omega)
      have ct5x2c2 := (gt52).2.2.1 2 (by omega)
      have ct5x2f2 := (gt52).2.2.2 2 (by omega)
      clear gt52
      have gt53 : Al w w5 (ab + 1 + 1 + 1) 2 (fun j => [u, v].getD j 0) := hA5.get (x := (ab + 1 + 1 + 1, 2, (fun j => [u, v].getD j 0))) (by simp)
      have ct5x3c0 := (gt53).2.2.1 0 (by omega)
      have ct5x3f0 := (gt53).2.2.2 0 (by omega)
      have ct5x3c1 := (gt53).2.2.1 1 (by omega)
      have ct5x3f1 := (gt53).2.2.2 1 (by omega)
      clear gt53
      have gh5 : Al w w5 nb 2 (fun _ => 0) := hA5.get (x := (nb, 2, (fun _ => 0))) (by simp)
      have gh5xc0 := (gh5).2.2.1 0 (by omega)
      have gh5xf0 := (gh5).2.2.2 0 (by omega)
      have gh5xc1 := (gh5).2.2.1 1 (by omega)
      have gh5xf1 := (gh5).2.2.2 1 (by omega)
      clear gh5
      refine wpAnyH_ready (rs := [2]) (by kernel_rfl) (by simp) ?_
      refine AllReadyH.cons (o := { dst := some 72, op := Go.Op.call { callee := Go.Callee.value (Go.Operand.func 21), args := #[Go.Operand.tmp 70, Go.Operand.tmp 71], argTypes := #[34, 24] }, type := 26, pos := "laws.go:493", after := #[{ on := 0, ground := Go.Ground.data }, { on := 1, ground := Go.Ground.data }], guard := none }) rfl (fun K hK => ?_) AllReadyH.nil
      (go_simp; (go_at_call 21; refine (shb2_q _ _ _ _ _ A1 B1 C1 D1 _ (by with_reducible assumption) (by with_reducible assumption) (by with_reducible assumption) (by with_reducible assumption)).mono ?_; rintro e w2 ⟨rfl, hb2⟩; have hA2 := hA5.call hb2; have gt20 : Al w w2 (ab) 3 (fun j => [k, g, h].getD j 0) := hA2.get (x := (ab, 3, (fun j => [k, g, h].getD j 0))) (by simp); have ct2x0c0 := (gt20).2.2.1 0 (by omega); have ct2x0f0 := (gt20).2.2.2 0 (by omega); have ct2x0c1 := (gt20).2.2.1 1 (by omega); have ct2x0f1 := (gt20).2.2.2 1 (by omega); have ct2x0c2 := (gt20).2.2.1 2 (by omega); have ct2x0f2 := (gt20).2.2.2 2 (by omega); clear gt20; have gt21 : Al w w2 (ab + 1) 2 (fun j => [x, y].getD j 0) := hA2.get (x := (ab + 1, 2, (fun j => [x, y].getD j 0))) (by simp); have ct2x1c0 := (gt21).2.2.1 0 (by omega); have ct2x1f0 := (gt21).2.2.2 0 (by omega); have ct2x1c1 := (gt21).2.2.1 1 (by omega); have ct2x1f1 := (gt21).2.2.2 1 (by omega); clear gt21; have gt22 : Al w w2 (ab + 1 + 1) 3 (fun j => [m, c, d].getD j 0) := hA2.get (x := (ab + 1 + 1, 3, (fun j => [m, c, d].getD j 0))) (by simp); have ct2x2c0 := (gt22).2.2.1 0 (by omega); have ct2x2f0 := (gt22).2.2.2 0 (by omega); have ct2x2c1 := (gt22).2.2.1 1 (by omega); have ct2x2f1 := (gt22).2.2.2 1 (by omega); have ct2x2c2 := (gt22).2.2.1 2 (by omega); have ct2x2f2 := (gt22).2.2.2 2 (by omega); clear gt22; have gt23 : Al w w2 (ab + 1 + 1 + 1) 2 (fun j => [u, v].getD j 0) := hA2.get (x := (ab + 1 + 1 + 1, 2, (fun j => [u, v].getD j 0))) (by simp); have ct2x3c0 := (gt23).2.2.1 0 (by omega); have ct2x3f0 := (gt23).2.2.2 0 (by omega); have ct2x3c1 := (gt23).2.2.1 1 (by omega); have ct2x3f1 := (gt23).2.2.2 1 (by omega); clear gt23; have gh2 : Al w w2 nb 2 (fun _ => 0) := hA2.get (x := (nb, 2, (fun _ => 0))) (by simp); have gh2xc0 := (gh2).2.2.1 0 (by omega); have gh2xf0 := (gh2).2.2.2 0 (by omega); have gh2xc1 := (gh2).2.2.1 1 (by omega); have gh2xf1 := (gh2).2.2.2 1 (by omega); clear gh2); (try go_wp2_with fail); refine hK.out _ _ ?_ (fun hHeld => ?_); (focus ((try dsimp only); (first | (go_simp; done) | (go_keep; done)))); clear hK K; (try simp only [Act.put, List.setIfInBounds_toArray, List.set_cons_zero, List.set_cons_succ]))
      refine wpAnyH_ready (rs := [4]) (by kernel_rfl) (by simp) ?_
      refine AllReadyH.cons (o := { dst := some 74, op := Go.Op.call { callee := Go.Callee.value (Go.Operand.func 23), args := #[Go.Operand.tmp 72, Go.Operand.tmp 73], argTypes := #[26, 24] }, type := 24, pos := "laws.go:493", after := #[{ on := 2, ground := Go.Ground.data }, { on := 3, ground := Go.Ground.data }, { on := 2, ground := Go.Ground.chain }], guard := none }) rfl (fun K hK => ?_) AllReadyH.nil
      (go_simp; (go_at_call 23; refine (near_q _ _ _ _ _ _ N M _ (by with_reducible assumption) (by with_reducible assumption)).mono ?_; rintro e w4 ⟨rfl, hb4⟩; have hA4 := hA2.call hb4; have gt40 : Al w w4 (ab) 3 (fun j => [k, g, h].getD j 0) := hA4.get (x := (ab, 3, (fun j => [k, g, h].getD j 0))) (by simp); have ct4x0c0 := (gt40).2.2.1 0 (by omega); have ct4x0f0 := (gt40).2.2.2 0 (by omega); have ct4x0c1 := (gt40).2.2.1 1 (by omega); have ct4x0f1 := (gt40).2.2.2 1 (by omega); have ct4x0c2 := (gt40).2.2.1 2 (by omega); have ct4x0f2 := (gt40).2.2.2 2 (by omega); clear gt40; have gt41 : Al w w4 (ab + 1) 2 (fun j => [x, y].getD j 0) := hA4.get (x := (ab + 1, 2, (fun j => [x, y].getD j 0))) (by simp); have ct4x1c0 := (gt41).2.2.1 0 (by omega); have ct4x1f0 := (gt41).2.2.2 0 (by omega); have ct4x1c1 := (gt41).2.2.1 1 (by omega); have ct4x1f1 := (gt41).2.2.2 1 (by omega); clear gt41; have gt42 : Al w w4 (ab + 1 + 1) 3 (fun j => [m, c, d].getD j 0) := hA4.get (x := (ab + 1 + 1, 3, (fun j => [m, c, d].getD j 0))) (by simp); have ct4x2c0 := (gt42).2.2.1 0 (by omega); have ct4x2f0 := (gt42).2.2.2 0 (by omega); have ct4x2c1 := (gt42).2.2.1 1 (by omega); have ct4x2f1 := (gt42).2.2.2 1 (by omega); have ct4x2c2 := (gt42).2.2.1 2 (by omega); have ct4x2f2 := (gt42).2.2.2 2 (by omega); clear gt42; have gt43 : Al w w4 (ab + 1 + 1 + 1) 2 (fun j => [u, v].getD j 0) := hA4.get (x := (ab + 1 + 1 + 1, 2, (fun j => [u, v].getD j 0))) (by simp); have ct4x3c0 := (gt43).2.2.1 0 (by omega); have ct4x3f0 := (gt43).2.2.2 0 (by omega); have ct4x3c1 := (gt43).2.2.1 1 (by omega); have ct4x3f1 := (gt43).2.2.2 1 (by omega); clear gt43; have gh4 : Al w w4 nb 2 (fun _ => 0) := hA4.get (x := (nb, 2, (fun _ => 0))) (by simp); have gh4xc0 := (gh4).2.2.1 0 (by omega); have gh4xf0 := (gh4).2.2.2 0 (by omega); have gh4xc1 := (gh4).2.2.1 1 (by omega); have gh4xf1 := (gh4).2.2.2 1 (by omega); clear gh4); (try go_wp2_with fail); refine hK.out _ _ ?_ (fun hHeld => ?_); (focus ((try dsimp only); (first | (go_simp; done) | (go_keep; done)))); clear hK K; (try simp only [Act.put, List.setIfInBounds_toArray, List.set_cons_zero, List.set_cons_succ]))
      refine wpAnyH_ready (rs := [6]) (by kernel_rfl) (by simp) ?_
      refine AllReadyH.cons (o := { dst := none, op := Go.Op.store 24 (Go.Operand.tmp 12) (Go.Operand.tmp 74), type := 0, pos := "laws.go:493", after := #[{ on := 5, ground := Go.Ground.data }, { on := 4, ground := Go.Ground.data }, { on := 4, ground := Go.Ground.chain }, { on := 0, ground := Go.Ground.phase }, { on := 1, ground := Go.Ground.phase }, { on := 2, ground := Go.Ground.phase }, { on := 3, ground := Go.Ground.phase }, { on := 4, ground := Go.Ground.phase }, { on := 5, ground := Go.Ground.phase }], guard := none }) rfl (fun K hK => ?_) AllReadyH.nil
      (go_simp; refine hK.out _ _ ?_ (fun hHeld => ?_); (focus ((try dsimp only); (first | (go_simp; done) | (go_keep; done)))); clear hK K; (try simp only [Act.put, List.setIfInBounds_toArray, List.set_cons_zero, List.set_cons_succ]))
      refine wpAnyH_done (by kernel_rfl) ?_ _
      go_wp2_with fail
      go_meet
      exact ⟨nb, rfl, ⟨lnb, lnb2⟩, ((hA4.set (by intro x hx; simp only [List.mem_cons, List.not_mem_nil, or_false] at hx; rcases hx with rfl | rfl | rfl | rfl | rfl <;> dsimp only <;> omega) 0 (by omega) N).set (by intro x hx; simp only [List.mem_cons, List.not_mem_nil, or_false] at hx; rcases hx with rfl | rfl | rfl | rfl | rfl <;> dsimp only <;> omega) 1 (by omega) M)⟩
  case rest =>
  clear hA z1 z2 z3 z4 z5 z6
  obtain ⟨nb, rfl, ⟨lnb, lnb2⟩, hA⟩ := hcut
  have g0 : Al w wc pb 2 (fun j => [P, Q].getD j 0) := hA.get (x := (pb, 2, (fun j => [P, Q].getD j 0))) (by simp)
  have g1 : Al w wc nb 2 (fun j => if j = 1 then M else (fun j => if j = 0 then N else (fun _ => 0) j) j) := hA.get (x := (nb, 2, (fun j => if j = 1 then M else (fun j => if j = 0 then N else (fun _ => 0) j) j))) (by simp)
  have g0xc0 := (g0).2.2.1 0 (by omega)
  have g0xf0 := (g0).2.2.2 0 (by omega)
  have g0xc1 := (g0).2.2.1 1 (by omega)
  have g0xf1 := (g0).2.2.2 1 (by omega)
  have g1xc0 := (g1).2.2.1 0 (by omega)
  have g1xf0 := (g1).2.2.2 0 (by omega)
  have g1xc1 := (g1).2.2.1 1 (by omega)
  have g1xf1 := (g1).2.2.2 1 (by omega)
  have gx0 : Al w wc (ab) 3 (fun j => [k, g, h].getD j 0) := hA.get (x := (ab, 3, (fun j => [k, g, h].getD j 0))) (by simp)
  have cxx0c0 := (gx0).2.2.1 0 (by omega)
  have cxx0f0 := (gx0).2.2.2 0 (by omega)
  have cxx0c1 := (gx0).2.2.1 1 (by omega)
  have cxx0f1 := (gx0).2.2.2 1 (by omega)
  have cxx0c2 := (gx0).2.2.1 2 (by omega)
  have cxx0f2 := (gx0).2.2.2 2 (by omega)
  clear gx0
  have gx1 : Al w wc (ab + 1) 2 (fun j => [x, y].getD j 0) := hA.get (x := (ab + 1, 2, (fun j => [x, y].getD j 0))) (by simp)
  have cxx1c0 := (gx1).2.2.1 0 (by omega)
  have cxx1f0 := (gx1).2.2.2 0 (by omega)
  have cxx1c1 := (gx1).2.2.1 1 (by omega)
  have cxx1f1 := (gx1).2.2.2 1 (by omega)
  clear gx1
  have gx2 : Al w wc (ab + 1 + 1) 3 (fun j => [m, c, d].getD j 0) := hA.get (x := (ab + 1 + 1, 3, (fun j => [m, c, d].getD j 0))) (by simp)
  have cxx2c0 := (gx2).2.2.1 0 (by omega)
  have cxx2f0 := (gx2).2.2.2 0 (by omega)
  have cxx2c1 := (gx2).2.2.1 1 (by omega)
  have cxx2f1 := (gx2).2.2.2 1 (by omega)
  have cxx2c2 := (gx2).2.2.1 2 (by omega)
  have cxx2f2 := (gx2).2.2.2 2 (by omega)
  clear gx2
  have gx3 : Al w wc (ab + 1 + 1 + 1) 2 (fun j => [u, v].getD j 0) := hA.get (x := (ab + 1 + 1 + 1, 2, (fun j => [u, v].getD j 0))) (by simp)
  have cxx3c0 := (gx3).2.2.1 0 (by omega)
  have cxx3f0 := (gx3).2.2.2 0 (by omega)
  have cxx3c1 := (gx3).2.2.1 1 (by omega)
  have cxx3f1 := (gx3).2.2.2 1 (by omega)
  clear gx3
  clear g0 g1
  go_upto_region 11 with fail
  have hz1 : ab + 1 + 1 + 1 < wc.heap.size := hA.lt (x := (ab + 1 + 1 + 1, 2, (fun j => [u, v].getD j 0))) (by simp)
  obtain ⟨lb, elb⟩ : ∃ lb, wc.heap.size = lb := ⟨_, rfl⟩
  have hA1 : AL w (wc.alloc (.cells #[.int .i64 P, .int .i64 Q, .int .i64 N, .int .i64 M, .int .i64 x, .int .i64 y, .int .i64 u, .int .i64 v] 24)) [(lb, 8, (fun j => [P, Q, N, M, x, y, u, v].getD j 0)), (ab + 1 + 1 + 1, 2, (fun j => [u, v].getD j 0)), (ab + 1 + 1, 3, (fun j => [m, c, d].getD j 0)), (ab + 1, 2, (fun j => [x, y].getD j 0)), (ab, 3, (fun j => [k, g, h].getD j 0))] := (hA.sub (M := [(ab + 1 + 1 + 1, 2, (fun j => [u, v].getD j 0)), (ab + 1 + 1, 3, (fun j => [m, c, d].getD j 0)), (ab + 1, 2, (fun j => [x, y].getD j 0)), (ab, 3, (fun j => [k, g, h].getD j 0))]) (by intro x hx; simp only [List.mem_cons, List.not_mem_nil, or_false] at hx; rcases hx with rfl | rfl | rfl | rfl <;> simp)).new lb 8 _ elb.symm (by intro i hi; rcases (show i = 0 ∨ i = 1 ∨ i = 2 ∨ i = 3 ∨ i = 4 ∨ i = 5 ∨ i = 6 ∨ i = 7 by omega) with rfl | rfl | rfl | rfl | rfl | rfl | rfl | rfl <;> rfl)
  rw [elb] at hz1 ⊢
  generalize wc.alloc (.cells #[.int .i64 P, .int .i64 Q, .int .i64 N, .int .i64 M, .int .i64 x, .int .i64 y, .int .i64 u, .int .i64 v] 24) = w3 at *
  clear hA elb
  go_loopg [81] 4 (fun n s wx => ∃ t : Int, s = .int .i64 t ∧ t + n = 4 ∧ 0 ≤ t ∧ AL w wx [(lb, 8, (fun j => [P, Q, N, M, x, y, u, v].getD j 0)), (ab + 1 + 1 + 1, 2, (fun j => [u, v].getD j 0)), (ab + 1 + 1, 3, (fun j => [m, c, d].getD j 0)), (ab + 1, 2, (fun j => [x, y].getD j 0)), (ab, 3, (fun j => [k, g, h].getD j 0))])
  case atStart => exact ⟨0, rfl, by omega, by omega, hA1⟩
  case round =>
    obtain ⟨t, rfl, ht, ht0, hA⟩ := hrel
    clear hA1
    cases gk with
    | zero =>
      have ht9 : t = 4 := by omega
      subst ht9
      go_wp2_with fail
      go_ret
      exact ⟨rfl, hA.bel⟩
    | succ n =>
      have wt := i64w (n := t + 1) (by omega)
      have tl : (t < 4) = True := eq_true (by omega)
      go_upto_region 12 with fail
      go_cut [14] (fun s14 wc => ∃ (xb : Nat) (px py : Int), s14 = .pointer (some ⟨xb, 0, none⟩) ∧ (ab + 1 + 1 + 1 < xb) ∧ AL w wc [(xb, 2, (fun j => [px, py].getD j 0)), (lb, 8, (fun j => [P, Q, N, M, x, y, u, v].getD j 0)), (ab + 1 + 1 + 1, 2, (fun j => [u, v].getD j 0)), (ab + 1 + 1, 3, (fun j => [m, c, d].getD j 0)), (ab + 1, 2, (fun j => [x, y].getD j 0)), (ab, 3, (fun j => [k, g, h].getD j 0))])
      case first =>
        have hz2 : ab + 1 + 1 + 1 < wr.heap.size := hA.lt (x := (ab + 1 + 1 + 1, 2, (fun j => [u, v].getD j 0))) (by simp)
        have gl0 : Al w wr (lb) 8 (fun j => [P, Q, N, M, x, y, u, v].getD j 0) := hA.get (x := (lb, 8, (fun j => [P, Q, N, M, x, y, u, v].getD j 0))) (by simp)
        have clx0c0 := (gl0).2.2.1 0 (by omega)
        have clx0f0 := (gl0).2.2.2 0 (by omega)
        have clx0c1 := (gl0).2.2.1 1 (by omega)
        have clx0f1 := (gl0).2.2.2 1 (by omega)
        have clx0c2 := (gl0).2.2.1 2 (by omega)
        have clx0f2 := (gl0).2.2.2 2 (by omega)
        have clx0c3 := (gl0).2.2.1 3 (by omega)
        have clx0f3 := (gl0).2.2.2 3 (by omega)
        have clx0c4 := (gl0).2.2.1 4 (by omega)
        have clx0f4 := (gl0).2.2.2 4 (by omega)
        have clx0c5 := (gl0).2.2.1 5 (by omega)
        have clx0f5 := (gl0).2.2.2 5 (by omega)
        have clx0c6 := (gl0).2.2.1 6 (by omega)
        have clx0f6 := (gl0).2.2.2 6 (by omega)
        have clx0c7 := (gl0).2.2.1 7 (by omega)
        have clx0f7 := (gl0).2.2.2 7 (by omega)
        clear gl0
        rcases (show t = 0 ∨ t = 1 ∨ t = 2 ∨ t = 3 by omega) with rfl | rfl | rfl | rfl
        · go_wp2_with fail
          go_meet
          exact ⟨_, P, Q, rfl, hz2, hA.new _ 2 _ rfl (by intro i hi; rcases (show i = 0 ∨ i = 1 by omega) with rfl | rfl <;> rfl)⟩
        · go_wp2_with fail
          go_meet
          exact ⟨_, N, M, rfl, hz2, hA.new _ 2 _ rfl (by intro i hi; rcases (show i = 0 ∨ i = 1 by omega) with rfl | rfl <;> rfl)⟩
        · go_wp2_with fail
          go_meet
          exact ⟨_, x, y, rfl, hz2, hA.new _ 2 _ rfl (by intro i hi; rcases (show i = 0 ∨ i = 1 by omega) with rfl | rfl <;> rfl)⟩
        · go_wp2_with fail
          go_meet
          exact ⟨_, u, v, rfl, hz2, hA.new _ 2 _ rfl (by intro i hi; rcases (show i = 0 ∨ i = 1 by omega) with rfl | rfl <;> rfl)⟩
      case rest =>
      clear hA
      obtain ⟨xb, px, py, rfl, lxb, hA⟩ := hcut
      have gm0 : Al w wc (ab) 3 (fun j => [k, g, h].getD j 0) := hA.get (x := (ab, 3, (fun j => [k, g, h].getD j 0))) (by simp)
      have cmx0c0 := (gm0).2.2.1 0 (by omega)
      have cmx0f0 := (gm0).2.2.2 0 (by omega)
      have cmx0c1 := (gm0).2.2.1 1 (by omega)
      have cmx0f1 := (gm0).2.2.2 1 (by omega)
      have cmx0c2 := (gm0).2.2.1 2 (by omega)
      have cmx0f2 := (gm0).2.2.2 2 (by omega)
      clear gm0
      have gm1 : Al w wc (ab + 1) 2 (fun j => [x, y].getD j 0) := hA.get (x := (ab + 1, 2, (fun j => [x, y].getD j 0))) (by simp)
      have cmx1c0 := (gm1).2.2.1 0 (by omega)
      have cmx1f0 := (gm1).2.2.2 0 (by omega)
      have cmx1c1 := (gm1).2.2.1 1 (by omega)
      have cmx1f1 := (gm1).2.2.2 1 (by omega)
      clear gm1
      have gm2 : Al w wc (ab + 1 + 1) 3 (fun j => [m, c, d].getD j 0) := hA.get (x := (ab + 1 + 1, 3, (fun j => [m, c, d].getD j 0))) (by simp)
      have cmx2c0 := (gm2).2.2.1 0 (by omega)
      have cmx2f0 := (gm2).2.2.2 0 (by omega)
      have cmx2c1 := (gm2).2.2.1 1 (by omega)
      have cmx2f1 := (gm2).2.2.2 1 (by omega)
      have cmx2c2 := (gm2).2.2.1 2 (by omega)
      have cmx2f2 := (gm2).2.2.2 2 (by omega)
      clear gm2
      have gm3 : Al w wc (ab + 1 + 1 + 1) 2 (fun j => [u, v].getD j 0) := hA.get (x := (ab + 1 + 1 + 1, 2, (fun j => [u, v].getD j 0))) (by simp)
      have cmx3c0 := (gm3).2.2.1 0 (by omega)
      have cmx3f0 := (gm3).2.2.2 0 (by omega)
      have cmx3c1 := (gm3).2.2.1 1 (by omega)
      have cmx3f1 := (gm3).2.2.2 1 (by omega)
      clear gm3
      have gm4 : Al w wc (xb) 2 (fun j => [px, py].getD j 0) := hA.get (x := (xb, 2, (fun j => [px, py].getD j 0))) (by simp)
      have cmx4c0 := (gm4).2.2.1 0 (by omega)
      have cmx4f0 := (gm4).2.2.2 0 (by omega)
      have cmx4c1 := (gm4).2.2.1 1 (by omega)
      have cmx4f1 := (gm4).2.2.2 1 (by omega)
      clear gm4
      cases v1 : shV k g h x y px py with
      | false =>
        go_wp2_with (first
            | (have _ := hb15; go_at_call 24; refine (has_q m c d u v px py false _ (by with_reducible assumption)).mono ?_; rintro e w16 ⟨rfl, hb16⟩; have hA16 := hA15.call hb16; have gu160 : Al w w16 (ab) 3 (fun j => [k, g, h].getD j 0) := hA16.get (x := (ab, 3, (fun j => [k, g, h].getD j 0))) (by simp); have cu16x0c0 := (gu160).2.2.1 0 (by omega); have cu16x0f0 := (gu160).2.2.2 0 (by omega); have cu16x0c1 := (gu160).2.2.1 1 (by omega); have cu16x0f1 := (gu160).2.2.2 1 (by omega); have cu16x0c2 := (gu160).2.2.1 2 (by omega); have cu16x0f2 := (gu160).2.2.2 2 (by omega); clear gu160; have gu161 : Al w w16 (ab + 1) 2 (fun j => [x, y].getD j 0) := hA16.get (x := (ab + 1, 2, (fun j => [x, y].getD j 0))) (by simp); have cu16x1c0 := (gu161).2.2.1 0 (by omega); have cu16x1f0 := (gu161).2.2.2 0 (by omega); have cu16x1c1 := (gu161).2.2.1 1 (by omega); have cu16x1f1 := (gu161).2.2.2 1 (by omega); clear gu161; have gu162 : Al w w16 (ab + 1 + 1) 3 (fun j => [m, c, d].getD j 0) := hA16.get (x := (ab + 1 + 1, 3, (fun j => [m, c, d].getD j 0))) (by simp); have cu16x2c0 := (gu162).2.2.1 0 (by omega); have cu16x2f0 := (gu162).2.2.2 0 (by omega); have cu16x2c1 := (gu162).2.2.1 1 (by omega); have cu16x2f1 := (gu162).2.2.2 1 (by omega); have cu16x2c2 := (gu162).2.2.1 2 (by omega); have cu16x2f2 := (gu162).2.2.2 2 (by omega); clear gu162; have gu163 : Al w w16 (ab + 1 + 1 + 1) 2 (fun j => [u, v].getD j 0) := hA16.get (x := (ab + 1 + 1 + 1, 2, (fun j => [u, v].getD j 0))) (by simp); have cu16x3c0 := (gu163).2.2.1 0 (by omega); have cu16x3f0 := (gu163).2.2.2 0 (by omega); have cu16x3c1 := (gu163).2.2.1 1 (by omega); have cu16x3f1 := (gu163).2.2.2 1 (by omega); clear gu163; have gu164 : Al w w16 (xb) 2 (fun j => [px, py].getD j 0) := hA16.get (x := (xb, 2, (fun j => [px, py].getD j 0))) (by simp); have cu16x4c0 := (gu164).2.2.1 0 (by omega); have cu16x4f0 := (gu164).2.2.2 0 (by omega); have cu16x4c1 := (gu164).2.2.1 1 (by omega); have cu16x4f1 := (gu164).2.2.2 1 (by omega); clear gu164)
            | (go_at_call 24; refine (has_q k g h x y px py false _ (by with_reducible assumption)).mono ?_; rintro e w15 ⟨rfl, hb15⟩; have hA15 := hA.call hb15; have gu150 : Al w w15 (ab) 3 (fun j => [k, g, h].getD j 0) := hA15.get (x := (ab, 3, (fun j => [k, g, h].getD j 0))) (by simp); have cu15x0c0 := (gu150).2.2.1 0 (by omega); have cu15x0f0 := (gu150).2.2.2 0 (by omega); have cu15x0c1 := (gu150).2.2.1 1 (by omega); have cu15x0f1 := (gu150).2.2.2 1 (by omega); have cu15x0c2 := (gu150).2.2.1 2 (by omega); have cu15x0f2 := (gu150).2.2.2 2 (by omega); clear gu150; have gu151 : Al w w15 (ab + 1) 2 (fun j => [x, y].getD j 0) := hA15.get (x := (ab + 1, 2, (fun j => [x, y].getD j 0))) (by simp); have cu15x1c0 := (gu151).2.2.1 0 (by omega); have cu15x1f0 := (gu151).2.2.2 0 (by omega); have cu15x1c1 := (gu151).2.2.1 1 (by omega); have cu15x1f1 := (gu151).2.2.2 1 (by omega); clear gu151; have gu152 : Al w w15 (ab + 1 + 1) 3 (fun j => [m, c, d].getD j 0) := hA15.get (x := (ab + 1 + 1, 3, (fun j => [m, c, d].getD j 0))) (by simp); have cu15x2c0 := (gu152).2.2.1 0 (by omega); have cu15x2f0 := (gu152).2.2.2 0 (by omega); have cu15x2c1 := (gu152).2.2.1 1 (by omega); have cu15x2f1 := (gu152).2.2.2 1 (by omega); have cu15x2c2 := (gu152).2.2.1 2 (by omega); have cu15x2f2 := (gu152).2.2.2 2 (by omega); clear gu152; have gu153 : Al w w15 (ab + 1 + 1 + 1) 2 (fun j => [u, v].getD j 0) := hA15.get (x := (ab + 1 + 1 + 1, 2, (fun j => [u, v].getD j 0))) (by simp); have cu15x3c0 := (gu153).2.2.1 0 (by omega); have cu15x3f0 := (gu153).2.2.2 0 (by omega); have cu15x3c1 := (gu153).2.2.1 1 (by omega); have cu15x3f1 := (gu153).2.2.2 1 (by omega); clear gu153; have gu154 : Al w w15 (xb) 2 (fun j => [px, py].getD j 0) := hA15.get (x := (xb, 2, (fun j => [px, py].getD j 0))) (by simp); have cu15x4c0 := (gu154).2.2.1 0 (by omega); have cu15x4f0 := (gu154).2.2.2 0 (by omega); have cu15x4c1 := (gu154).2.2.1 1 (by omega); have cu15x4f1 := (gu154).2.2.2 1 (by omega); clear gu154))
        go_roundg n
        case measure => omega
        case rel => exact ⟨t + 1, rfl, by omega, by omega, hA15.sub (by intro x hx; simp only [List.mem_cons, List.not_mem_nil, or_false] at hx; rcases hx with rfl | rfl | rfl | rfl | rfl <;> simp)⟩
      | true =>
        cases v2 : shV m c d u v px py with
        | false =>
          go_wp2_with (first
              | (have _ := hb15; go_at_call 24; refine (has_q m c d u v px py false _ (by with_reducible assumption)).mono ?_; rintro e w16 ⟨rfl, hb16⟩; have hA16 := hA15.call hb16; have gu160 : Al w w16 (ab) 3 (fun j => [k, g, h].getD j 0) := hA16.get (x := (ab, 3, (fun j => [k, g, h].getD j 0))) (by simp); have cu16x0c0 := (gu160).2.2.1 0 (by omega); have cu16x0f0 := (gu160).2.2.2 0 (by omega); have cu16x0c1 := (gu160).2.2.1 1 (by omega); have cu16x0f1 := (gu160).2.2.2 1 (by omega); have cu16x0c2 := (gu160).2.2.1 2 (by omega); have cu16x0f2 := (gu160).2.2.2 2 (by omega); clear gu160; have gu161 : Al w w16 (ab + 1) 2 (fun j => [x, y].getD j 0) := hA16.get (x := (ab + 1, 2, (fun j => [x, y].getD j 0))) (by simp); have cu16x1c0 := (gu161).2.2.1 0 (by omega); have cu16x1f0 := (gu161).2.2.2 0 (by omega); have cu16x1c1 := (gu161).2.2.1 1 (by omega); have cu16x1f1 := (gu161).2.2.2 1 (by omega); clear gu161; have gu162 : Al w w16 (ab + 1 + 1) 3 (fun j => [m, c, d].getD j 0) := hA16.get (x := (ab + 1 + 1, 3, (fun j => [m, c, d].getD j 0))) (by simp); have cu16x2c0 := (gu162).2.2.1 0 (by omega); have cu16x2f0 := (gu162).2.2.2 0 (by omega); have cu16x2c1 := (gu162).2.2.1 1 (by omega); have cu16x2f1 := (gu162).2.2.2 1 (by omega); have cu16x2c2 := (gu162).2.2.1 2 (by omega); have cu16x2f2 := (gu162).2.2.2 2 (by omega); clear gu162; have gu163 : Al w w16 (ab + 1 + 1 + 1) 2 (fun j => [u, v].getD j 0) := hA16.get (x := (ab + 1 + 1 + 1, 2, (fun j => [u, v].getD j 0))) (by simp); have cu16x3c0 := (gu163).2.2.1 0 (by omega); have cu16x3f0 := (gu163).2.2.2 0 (by omega); have cu16x3c1 := (gu163).2.2.1 1 (by omega); have cu16x3f1 := (gu163).2.2.2 1 (by omega); clear gu163; have gu164 : Al w w16 (xb) 2 (fun j => [px, py].getD j 0) := hA16.get (x := (xb, 2, (fun j => [px, py].getD j 0))) (by simp); have cu16x4c0 := (gu164).2.2.1 0 (by omega); have cu16x4f0 := (gu164).2.2.2 0 (by omega); have cu16x4c1 := (gu164).2.2.1 1 (by omega); have cu16x4f1 := (gu164).2.2.2 1 (by omega); clear gu164)
              | (go_at_call 24; refine (has_q k g h x y px py true _ (by with_reducible assumption)).mono ?_; rintro e w15 ⟨rfl, hb15⟩; have hA15 := hA.call hb15; have gu150 : Al w w15 (ab) 3 (fun j => [k, g, h].getD j 0) := hA15.get (x := (ab, 3, (fun j => [k, g, h].getD j 0))) (by simp); have cu15x0c0 := (gu150).2.2.1 0 (by omega); have cu15x0f0 := (gu150).2.2.2 0 (by omega); have cu15x0c1 := (gu150).2.2.1 1 (by omega); have cu15x0f1 := (gu150).2.2.2 1 (by omega); have cu15x0c2 := (gu150).2.2.1 2 (by omega); have cu15x0f2 := (gu150).2.2.2 2 (by omega); clear gu150; have gu151 : Al w w15 (ab + 1) 2 (fun j => [x, y].getD j 0) := hA15.get (x := (ab + 1, 2, (fun j => [x, y].getD j 0))) (by simp); have cu15x1c0 := (gu151).2.2.1 0 (by omega); have cu15x1f0 := (gu151).2.2.2 0 (by omega); have cu15x1c1 := (gu151).2.2.1 1 (by omega); have cu15x1f1 := (gu151).2.2.2 1 (by omega); clear gu151; have gu152 : Al w w15 (ab + 1 + 1) 3 (fun j => [m, c, d].getD j 0) := hA15.get (x := (ab + 1 + 1, 3, (fun j => [m, c, d].getD j 0))) (by simp); have cu15x2c0 := (gu152).2.2.1 0 (by omega); have cu15x2f0 := (gu152).2.2.2 0 (by omega); have cu15x2c1 := (gu152).2.2.1 1 (by omega); have cu15x2f1 := (gu152).2.2.2 1 (by omega); have cu15x2c2 := (gu152).2.2.1 2 (by omega); have cu15x2f2 := (gu152).2.2.2 2 (by omega); clear gu152; have gu153 : Al w w15 (ab + 1 + 1 + 1) 2 (fun j => [u, v].getD j 0) := hA15.get (x := (ab + 1 + 1 + 1, 2, (fun j => [u, v].getD j 0))) (by simp); have cu15x3c0 := (gu153).2.2.1 0 (by omega); have cu15x3f0 := (gu153).2.2.2 0 (by omega); have cu15x3c1 := (gu153).2.2.1 1 (by omega); have cu15x3f1 := (gu153).2.2.2 1 (by omega); clear gu153; have gu154 : Al w w15 (xb) 2 (fun j => [px, py].getD j 0) := hA15.get (x := (xb, 2, (fun j => [px, py].getD j 0))) (by simp); have cu15x4c0 := (gu154).2.2.1 0 (by omega); have cu15x4f0 := (gu154).2.2.2 0 (by omega); have cu15x4c1 := (gu154).2.2.1 1 (by omega); have cu15x4f1 := (gu154).2.2.2 1 (by omega); clear gu154))
          go_roundg n
          case measure => omega
          case rel => exact ⟨t + 1, rfl, by omega, by omega, hA16.sub (by intro x hx; simp only [List.mem_cons, List.not_mem_nil, or_false] at hx; rcases hx with rfl | rfl | rfl | rfl | rfl <;> simp)⟩
        | true =>
          have hK := touch_point shut1.out v1 v2
          subst hK
          go_wp2_with (first
              | (have _ := hb15; go_at_call 24; refine (has_q m c d u v px py true _ (by with_reducible assumption)).mono ?_; rintro e w16 ⟨rfl, hb16⟩; have hA16 := hA15.call hb16; have gu160 : Al w w16 (ab) 3 (fun j => [k, g, h].getD j 0) := hA16.get (x := (ab, 3, (fun j => [k, g, h].getD j 0))) (by simp); have cu16x0c0 := (gu160).2.2.1 0 (by omega); have cu16x0f0 := (gu160).2.2.2 0 (by omega); have cu16x0c1 := (gu160).2.2.1 1 (by omega); have cu16x0f1 := (gu160).2.2.2 1 (by omega); have cu16x0c2 := (gu160).2.2.1 2 (by omega); have cu16x0f2 := (gu160).2.2.2 2 (by omega); clear gu160; have gu161 : Al w w16 (ab + 1) 2 (fun j => [x, y].getD j 0) := hA16.get (x := (ab + 1, 2, (fun j => [x, y].getD j 0))) (by simp); have cu16x1c0 := (gu161).2.2.1 0 (by omega); have cu16x1f0 := (gu161).2.2.2 0 (by omega); have cu16x1c1 := (gu161).2.2.1 1 (by omega); have cu16x1f1 := (gu161).2.2.2 1 (by omega); clear gu161; have gu162 : Al w w16 (ab + 1 + 1) 3 (fun j => [m, c, d].getD j 0) := hA16.get (x := (ab + 1 + 1, 3, (fun j => [m, c, d].getD j 0))) (by simp); have cu16x2c0 := (gu162).2.2.1 0 (by omega); have cu16x2f0 := (gu162).2.2.2 0 (by omega); have cu16x2c1 := (gu162).2.2.1 1 (by omega); have cu16x2f1 := (gu162).2.2.2 1 (by omega); have cu16x2c2 := (gu162).2.2.1 2 (by omega); have cu16x2f2 := (gu162).2.2.2 2 (by omega); clear gu162; have gu163 : Al w w16 (ab + 1 + 1 + 1) 2 (fun j => [u, v].getD j 0) := hA16.get (x := (ab + 1 + 1 + 1, 2, (fun j => [u, v].getD j 0))) (by simp); have cu16x3c0 := (gu163).2.2.1 0 (by omega); have cu16x3f0 := (gu163).2.2.2 0 (by omega); have cu16x3c1 := (gu163).2.2.1 1 (by omega); have cu16x3f1 := (gu163).2.2.2 1 (by omega); clear gu163; have gu164 : Al w w16 (xb) 2 (fun j => [px, py].getD j 0) := hA16.get (x := (xb, 2, (fun j => [px, py].getD j 0))) (by simp); have cu16x4c0 := (gu164).2.2.1 0 (by omega); have cu16x4f0 := (gu164).2.2.2 0 (by omega); have cu16x4c1 := (gu164).2.2.1 1 (by omega); have cu16x4f1 := (gu164).2.2.2 1 (by omega); clear gu164)
              | (go_at_call 24; refine (has_q k g h x y px py true _ (by with_reducible assumption)).mono ?_; rintro e w15 ⟨rfl, hb15⟩; have hA15 := hA.call hb15; have gu150 : Al w w15 (ab) 3 (fun j => [k, g, h].getD j 0) := hA15.get (x := (ab, 3, (fun j => [k, g, h].getD j 0))) (by simp); have cu15x0c0 := (gu150).2.2.1 0 (by omega); have cu15x0f0 := (gu150).2.2.2 0 (by omega); have cu15x0c1 := (gu150).2.2.1 1 (by omega); have cu15x0f1 := (gu150).2.2.2 1 (by omega); have cu15x0c2 := (gu150).2.2.1 2 (by omega); have cu15x0f2 := (gu150).2.2.2 2 (by omega); clear gu150; have gu151 : Al w w15 (ab + 1) 2 (fun j => [x, y].getD j 0) := hA15.get (x := (ab + 1, 2, (fun j => [x, y].getD j 0))) (by simp); have cu15x1c0 := (gu151).2.2.1 0 (by omega); have cu15x1f0 := (gu151).2.2.2 0 (by omega); have cu15x1c1 := (gu151).2.2.1 1 (by omega); have cu15x1f1 := (gu151).2.2.2 1 (by omega); clear gu151; have gu152 : Al w w15 (ab + 1 + 1) 3 (fun j => [m, c, d].getD j 0) := hA15.get (x := (ab + 1 + 1, 3, (fun j => [m, c, d].getD j 0))) (by simp); have cu15x2c0 := (gu152).2.2.1 0 (by omega); have cu15x2f0 := (gu152).2.2.2 0 (by omega); have cu15x2c1 := (gu152).2.2.1 1 (by omega); have cu15x2f1 := (gu152).2.2.2 1 (by omega); have cu15x2c2 := (gu152).2.2.1 2 (by omega); have cu15x2f2 := (gu152).2.2.2 2 (by omega); clear gu152; have gu153 : Al w w15 (ab + 1 + 1 + 1) 2 (fun j => [u, v].getD j 0) := hA15.get (x := (ab + 1 + 1 + 1, 2, (fun j => [u, v].getD j 0))) (by simp); have cu15x3c0 := (gu153).2.2.1 0 (by omega); have cu15x3f0 := (gu153).2.2.2 0 (by omega); have cu15x3c1 := (gu153).2.2.1 1 (by omega); have cu15x3f1 := (gu153).2.2.2 1 (by omega); clear gu153; have gu154 : Al w w15 (xb) 2 (fun j => [px, py].getD j 0) := hA15.get (x := (xb, 2, (fun j => [px, py].getD j 0))) (by simp); have cu15x4c0 := (gu154).2.2.1 0 (by omega); have cu15x4f0 := (gu154).2.2.2 0 (by omega); have cu15x4c1 := (gu154).2.2.1 1 (by omega); have cu15x4f1 := (gu154).2.2.2 1 (by omega); clear gu154))
          go_roundg n
          case measure => omega
          case rel => exact ⟨t + 1, rfl, by omega, by omega, hA16.sub (by intro x hx; simp only [List.mem_cons, List.not_mem_nil, or_false] at hx; rcases hx with rfl | rfl | rfl | rfl | rfl <;> simp)⟩
end Go.Proofs.Ytnkebpbpempmhaa
namespace Go.Proofs.Ytnkebpbpempmhaa
open Go.ChangeShapes Go.WideShapes Go.ChangeAt Go.RowKit Go.Joins
set_option linter.unusedVariables false
theorem fnTouchPoint_closed : joinedFacts Try.prog 5 Try.f5 Rows.fnTouchPointSpec Rows.fnTouchPointRow = true := by
  unfold joinedFacts
  rw [mayEnterT, liftsFinalT, makeT, laidOutT, mapsRowedT, stopsHeardT, plainKeysT]
  kernel_rfl

set_option maxRecDepth 100000 in
theorem fnTouchPoint_lifted (os : Os) (started : os.Started) (H : Type) (enc : TypeId × Value → H) :
    ReturnsInHanded {} Try.checked os 5 .any (Rows.fnTouchPointSpec.pre6 enc Try.prog Try.f5 Rows.fnTouchPointRow.domain false) (Rows.fnTouchPointSpec.post enc Try.prog Try.f5 false true false false) := by
  refine returnsInHanded_of_change (C := Try.checked) ownT started (by kernel_rfl) Try.func5
    (ChangeSpec.witness6 (enc := enc) (C := Try.checked) false ⟨#[], #[.slice none 0 0], []⟩ 8 (by kernel_rfl) (by kernel_rfl) (by kernel_rfl) (by kernel_rfl)) ?_
  intro W base args ds gs before hval0 hW hcnd _
  have hval : ∀ (j : Nat) t v, Try.f5.params[j]? = some t → args[j]? = some v → Value.okWide Try.prog W .any base t v := hval0
  have hW' := hW
  obtain ⟨p, q, hA0, hV, rfl, hfz, hnd⟩ := hW
  have hA : DataW.TrodAll enc Try.prog W 0 (fun _ => true) true Try.f5.params.toList args.toList ds p := hA0
  rw [Try.params5] at hA hval
  obtain ⟨v0, vs0, d0, ds0, p0, q0, hargs, rfl, rfl, h0, r0⟩ := trodAll_cons hA
  obtain ⟨rfl, rfl, rfl⟩ := trodAll_nil r0
  obtain rfl : args = #[v0] := by cases args; simp_all
  obtain ⟨rfl, rfl⟩ := trodVars_none hV
  obtain ⟨a0, len0, cap0, rfl⟩ := okWide_slice Try.underlying22 (hval 0 22 v0 rfl rfl)
  have k0 := h0
  have lt0 : ∀ x ∈ p0, x.block < W.heap.size := by obtain ⟨m, hm⟩ := k0; exact DataW.trod_lt m _ _ _ hm
  have w0 : Bytes W a0 len0 cap0 := by
    obtain ⟨fuel, hf⟩ := h0
    rcases open_ints Try.underlying22 Try.underlying5 (by kernel_rfl) hf with ⟨hcs, _⟩ | ⟨x, l, c, zs, hcs, _, hl, hm, hz, _, hcell, hwz⟩
    · simp [Value.cells] at hcs
      obtain ⟨rfl, rfl, rfl⟩ := hcs
      exact Bytes.nil W
    · simp [Value.cells] at hcs
      obtain ⟨rfl, rfl, rfl⟩ := hcs
      exact Bytes.of hl (by simpa using hz) hcell hwz
  clear hA0 hval0
  refine (fnTouchPoint_walk _ _ _ W w0).mono fun e W' ⟨he, bel⟩ => ?_
  subst he
  exact ⟨_, rfl, _, _, _, [], _, [], hW', trodAll_mk1 (shut_bool Try.underlying4 _), (trodAll_cons_mk (Below.trod laidOutT (by kernel_rfl) (of_decide_eq_true (by kernel_rfl)) k0 bel lt0) trodAll_mk0), rfl, bel.frame _, fun h => by cases h⟩

theorem fnTouchPoint_over : Rows.fnTouchPointRow.holds Try.pinned (OpenSpec.ofChange Rows.fnTouchPointSpec) :=
  OpenClaim.holds_of_wide 5 Try.f5 rfl rfl rfl rfl rfl rfl rfl ⟨rfl, rfl, rfl, rfl, rfl⟩ rfl rfl rfl rfl rfl (by kernel_rfl) Try.func5 fnTouchPoint_closed
    (of_decide_eq_true (by kernel_rfl)) (by unfold Func.isWrapper; first | (rw [if_pos (by decide +kernel)]; kernel_rfl) | (rw [if_neg (by decide +kernel)]; exact ⟨rfl, rfl⟩))
    (fun os started H enc _ => fnTouchPoint_lifted os started H enc)

theorem fnTouchPoint_proved : Rows.FnTouchPointSaid := fnTouchPoint_over
#print axioms fnTouchPoint_proved
end Go.Proofs.Ytnkebpbpempmhaa
