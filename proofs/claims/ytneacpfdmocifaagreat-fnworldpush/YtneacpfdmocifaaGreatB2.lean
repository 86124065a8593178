/- The contracts of the functions of chapter 2: ways. What lies where behind a call: a block's cells, whether it is frozen, that it is there still. What begins and ends to touch, by the specification: that it returns. The contracts of the specification's ways. The contracts of the specification's VecMul, VecLen and VecUnit. The contracts of boxes. The contracts of the specification's boxes. The contracts of the specification's BoxMeets and BoxHas. The contracts of VecMul, VecDot and VecLen. The contract of VecUnit. The contract of VecAdd. The contract of VecSub. The walks of the exact laws of chapter 2. The contracts of spans. What may not be is 0. The contracts of the specification's BoxBoth and BoxNear. The contract of the specification's BoxNear. The contracts of the shapes: what is ok. How two round shapes, and two boxes, touch, by the specification. How a box and something round touch, by the specification. The contracts of places and figures. -/
import Derived.Test.YtneacpfdmocifaaGreatB1
import Derived.Deep.QuietTactic
import Derived.BigQuiet
import Derived.Deep.RegionWith
import Derived.Deep.RegionHeld3
import Derived.Deep.DeepCutAuto
namespace Go.Proofs.YtneacpfdmocifaaGreat
open Go.RowKit
set_option linter.unusedVariables false

theorem bcell {W w1 : World} (hb : Below W.heap.size W w1) : (∀ b o, b < W.heap.size → w1.cell? ⟨b, o, none⟩ = W.cell? ⟨b, o, none⟩) ∧ (∀ b o, b < W.heap.size → w1.frozen? ⟨b, o, none⟩ = W.frozen? ⟨b, o, none⟩) :=
  ⟨fun b o h => hb.cell (p := ⟨b, o, none⟩) h, fun b o h => hb.frozen (p := ⟨b, o, none⟩) h⟩
theorem blt {W w1 : World} (hb : Below W.heap.size W w1) : ∀ b, b < W.heap.size → b < w1.heap.size := fun b h => Nat.lt_of_lt_of_le h hb.size
theorem belowDrewN {B : Nat} {a w : World} (h : Below B a w) (n : Nat) : Below B a (w.drewN n) := ⟨h.os, h.tape, h.output, h.size, h.block⟩
/-- what a walk leaves is younger: found by its own text -/
theorem bel_a {B : Nat} {a w : World} (h : Below B a w := by repeat (first | with_reducible apply Below.refl | (with_reducible apply Below.setCell; rotate_left; focus (first | omega | (simp; done) | (simp; omega))) | (with_reducible apply Below.alloc; rotate_left; focus (first | omega | (simp; done) | (simp; omega))) | with_reducible apply Below.drew | with_reducible apply belowDrewN | (with_reducible apply Below.trans; rotate_left; with_reducible apply Below.mono; with_reducible assumption; focus (first | omega | (simp; done) | (simp; omega))))) : Below B a w := h

theorem cset_map (w : World) (a : Addr) (v : Value) : (w.setCell a v).cell? a = (w.cell? a).map fun _ => v := by
  cases h : w.cell? a with
  | some u => rw [cset_same h]; rfl
  | none =>
    simp only [World.cell?, World.setCell, Array.getElem?_modify, if_true] at *
    cases hb : w.heap[a.block]? with
    | none => simp
    | some o =>
      rw [hb] at h
      cases o with
      | cells c t fr =>
        by_cases hs : a.spot.isSome
        · simp [hs]
        · simp [hs] at h ⊢; omega
      | _ => simp

theorem i64w {n : Int} (h : -9223372036854775808 ≤ n ∧ n ≤ 9223372036854775807) : IntKind.i64.wrap n = n := by
  simp [IntKind.wrap, IntKind.bits, IntKind.signed]; omega
/-- how far two ways go together -/
def vdot (x y u v : Int) : Int := fc ((fc x * fc u + fc y * fc v).tdiv 256)
/-- how long a way is -/
def vl (x y : Int) : Int := clampZ 1000000000 (rootZ (x * x + y * y))
/-- a way made as long as 1 -/
def ux (x y : Int) : Int := if vl x y = 0 then 0 else (x * 256).tdiv (vl x y)
def uy (x y : Int) : Int := if vl x y = 0 then 256 else (y * 256).tdiv (vl x y)
theorem vl_bd (x y : Int) : 0 ≤ vl x y ∧ vl x y ≤ 1000000000 := by
  have h := rootZ_nonneg (x * x + y * y)
  have k := clampZ_bd (l := 1000000000) (rootZ (x * x + y * y)) (by decide)
  refine ⟨?_, k.2⟩
  unfold vl clampZ; repeat' split
  all_goals omega
theorem sq_bd {x y : Int} (hx : -1000000000 ≤ x ∧ x ≤ 1000000000) (hy : -1000000000 ≤ y ∧ y ≤ 1000000000) : 0 ≤ x * x + y * y ∧ x * x + y * y ≤ 2000000000000000000 := by
  have p := mul_bd hx hx
  have q := mul_bd hy hy
  have p0 : 0 ≤ x * x := by rcases Int.le_total 0 x with h | h; exact Int.mul_nonneg h h; exact Int.mul_nonneg_of_nonpos_of_nonpos h h
  have q0 : 0 ≤ y * y := by rcases Int.le_total 0 y with h | h; exact Int.mul_nonneg h h; exact Int.mul_nonneg_of_nonpos_of_nonpos h h
  omega

abbrev vv (x y : Int) : Value := .agg #[.int .i64 x, .int .i64 y]

theorem wayOf_any (x y : Int) (w : World) :
    Calls Tryz.prog 31 #[vv x y] w fun e w' => e = .returned (vv x y) ∧ Below w.heap.size w w' := by
  have hset := cset_map
  go_enter Tryz.func31, Tryz.ntmps31
  go_wp2
  exact bodyPost_ret (v := vv x y) (by simp [results, Tryz.results31, go_sem]) rfl ⟨rfl, bel_a⟩

theorem vec_any (x y : Int) (w : World) :
    Calls Tryz.prog 58 #[vv x y] w fun e w' => e = .returned (vv x y) ∧ Below w.heap.size w w' := by
  have hset := cset_map
  go_enter Tryz.func58, Tryz.ntmps58
  go_wp2
  exact bodyPost_ret (v := vv x y) (by simp [results, Tryz.results58, go_sem]) rfl ⟨rfl, bel_a⟩

theorem plus_any (x y u v : Int) (w : World) (hx : -4000000000 ≤ x ∧ x ≤ 4000000000) (hy : -4000000000 ≤ y ∧ y ≤ 4000000000) (hu : -4000000000 ≤ u ∧ u ≤ 4000000000) (hv : -4000000000 ≤ v ∧ v ≤ 4000000000) :
    Calls Tryz.prog 53 #[vv x y, vv u v] w fun e w' => e = .returned (vv (x + u) (y + v)) ∧ Below w.heap.size w w' := by
  have hset := cset_map
  go_enter Tryz.func53, Tryz.ntmps53
  go_wp2
  exact bodyPost_ret (v := vv (x + u) (y + v)) (by simp [results, Tryz.results53, go_sem]) rfl ⟨rfl, bel_a⟩

set_option maxHeartbeats 1000000 in
theorem wayHeld_any (x y l : Int) (w : World) (h0 : 0 ≤ l) (h1 : l ≤ 4000000000) :
    Calls Tryz.prog 54 #[vv x y, .int .i64 l] w fun e w' => e = .returned (vv (clampZ l x) (clampZ l y)) ∧ Below w.heap.size w w' := by
  have hset := cset_map
  go_enter Tryz.func54, Tryz.ntmps54
  go_wp2
  go_region_with (go_at_call 81; refine (held_any _ _ _ h0 h1).mono ?_; rintro e w' ⟨rfl, rfl⟩)
  all_goals
    go_wp2
    exact bodyPost_ret (v := vv (clampZ l x) (clampZ l y)) (by simp [results, Tryz.results54, go_sem]) rfl ⟨rfl, bel_a⟩

def vokB (x y : Int) : Bool := decide (-1000000000 ≤ x ∧ x ≤ 1000000000 ∧ -1000000000 ≤ y ∧ y ≤ 1000000000)
def inB (l x y : Int) : Bool := decide (-l ≤ x ∧ x ≤ l ∧ -l ≤ y ∧ y ≤ l)
theorem within_any (n l : Int) (w : World) (h0 : 0 ≤ l) (h1 : l ≤ 4000000000) :
    Calls Tryz.prog 73 #[.int .i64 n, .int .i64 l] w fun e w' => e = .returned (.bool (decide (-l ≤ n ∧ n ≤ l))) ∧ w' = w := by
  go_enter Tryz.func73, Tryz.ntmps73
  go_wp2
  all_goals
    go_ret
    refine ⟨ret_bool ?_, rfl⟩
    first | (simp; omega) | (simp; done)
theorem within2_any (x y l : Int) (w : World) (h0 : 0 ≤ l) (h1 : l ≤ 4000000000) :
    Calls Tryz.prog 43 #[vv x y, .int .i64 l] w fun e w' => e = .returned (.bool (inB l x y)) ∧ Below w.heap.size w w' := by
  go_enter Tryz.func43, Tryz.ntmps43
  go_wp2_with (go_at_call 73; refine (within_any _ _ _ h0 h1).mono ?_; rintro e w' ⟨rfl, rfl⟩)

  all_goals
    go_ret
    refine ⟨ret_bool ?_, bel_a⟩
    unfold inB
    first | (simp; omega) | (simp [*]; done) | (simp at *; omega)
end Go.Proofs.YtneacpfdmocifaaGreat
namespace Go.Proofs.YtneacpfdmocifaaGreat
open Go.RowKit
set_option linter.unusedVariables false
theorem kfa {W w1 : World} (hb : Below W.heap.size W w1) (b : Nat) (h : b < W.heap.size := by ((try simp only [World.size_drew, World.size_alloc, World.size_setCell]); omega)) :
    (∀ o, w1.cell? ⟨b, o, none⟩ = W.cell? ⟨b, o, none⟩) ∧ (∀ o, w1.frozen? ⟨b, o, none⟩ = W.frozen? ⟨b, o, none⟩) ∧ b < w1.heap.size :=
  ⟨fun o => hb.cell (p := ⟨b, o, none⟩) h, fun o => hb.frozen (p := ⟨b, o, none⟩) h, Nat.lt_of_lt_of_le h hb.size⟩
end Go.Proofs.YtneacpfdmocifaaGreat
namespace Go.Proofs.YtneacpfdmocifaaGreat
open Go.RowKit
set_option linter.unusedVariables false
set_option linter.unusedSimpArgs false
set_option maxRecDepth 20000 in
set_option maxHeartbeats 8000000 in
theorem l4In_w (a : Option Addr) (N c : Nat) (Q : Nat → Int) (p q : Int) (w : World) (h : Flat w a (N * 2) Q) (hN : N ≤ 1048576) :
    Calls Tryz.prog 104 #[.slice a N c, .agg #[.int .i64 p, .int .i64 q]] w fun e w' => ∃ b : Bool, e = .returned (.bool b) ∧ Below w.heap.size w w' := by
  have hset := cset_map
  have hE : Below w.heap.size w (w.alloc (Obj.cells #[.int .i64 p, .int .i64 q] 60)) := (Below.refl _ _).alloc (Nat.le_refl _) _
  have hB0 : Nb (w.alloc (Obj.cells #[.int .i64 p, .int .i64 q] 60)) w.heap.size 2 (fun j => [p, q].getD j 0) := ⟨fun j hj => by rcases (show j = 0 ∨ j = 1 by omega) with rfl | rfl <;> go_simp, fun o => by go_simp, by simp⟩
  go_enter Tryz.func104, Tryz.ntmps104
  go_upto_region 2 with fail
  generalize (w.alloc (Obj.cells #[.int .i64 p, .int .i64 q] 60)) = w0 at hE hB0 ⊢
  go_loopw [5] (fun s wr => ∃ k : Nat, k ≤ N ∧ s = .int .i64 (k : Int) ∧ Below w.heap.size w wr ∧ Nb wr w.heap.size 2 (fun j => [p, q].getD j 0)) (fun s _ => N - (intOf s).toNat)
  case atStart => exact ⟨0, Nat.zero_le _, rfl, hE, hB0⟩
  case round =>
    clear hE hB0
    obtain ⟨k, hk, rfl, hw, hB⟩ := hrel
    by_cases hlt : k < N
    · have hkN : (k : Int) < (N : Int) := by omega
      obtain ⟨b1, o1, e1, _, hc1⟩ := (h.below hw) (by omega)
      have r0 : wr.cell? ⟨b1, o1 + k * 2, none⟩ = some (.int .i64 (Q (k * 2))) := by have z := hc1 (k * 2) (by omega); simpa [Nat.add_assoc] using z
      have r1 : wr.cell? ⟨b1, o1 + k * 2 + 1, none⟩ = some (.int .i64 (Q (k * 2 + 1))) := by have z := hc1 (k * 2 + 1) (by omega); simpa [Nat.add_assoc] using z
      have p0 : wr.cell? ⟨w.heap.size, 0, none⟩ = some (.int .i64 p) := hB.c 0 (by decide)
      have p1 : wr.cell? ⟨w.heap.size, 1, none⟩ = some (.int .i64 q) := hB.c 1 (by decide)
      clear hc1
      subst e1
      obtain ⟨bb, hbb⟩ : ∃ b, (Q (k * 2) == p && Q (k * 2 + 1) == q) = b := ⟨_, rfl⟩
      have hev : ∀ w, (Op.equalIn 10000 60 (.agg #[.int .i64 (Q (k * 2)), .int .i64 (Q (k * 2 + 1))]) (.agg #[.int .i64 p, .int .i64 q])).run Tryz.prog w = .ok bb w := fun w => by rw [eq_pair0, hbb]
      clear hbb
      cases bb with
      | true =>
        go_upto_region 4 with fail
        refine wp_region_held_drew (S := fun w' => w'.cell? ⟨b1, o1 + k * 2, none⟩ = some (.int .i64 (Q (k * 2))) ∧ w'.cell? ⟨b1, o1 + k * 2 + 1, none⟩ = some (.int .i64 (Q (k * 2 + 1))) ∧ w'.cell? ⟨w.heap.size, 0, none⟩ = some (.int .i64 p) ∧ w'.cell? ⟨w.heap.size, 1, none⟩ = some (.int .i64 q)) (by kernel_rfl) ?_ (fun hHeld => ?_)
        · (try dsimp only)
          (first | (go_simp; done) | (go_keep; done))
        refine tq 0 hHeld ?_
        refine tq 1 hHeld ?_
        refine tq 2 hHeld ?_
        refine tq 3 hHeld ?_
        refine tq 4 hHeld ?_
        refine tq 5 hHeld ?_
        refine wpAnyH_done (by kernel_rfl) ?_ _
        go_wp2_with fail
        go_ret
        exact ⟨_, rfl, hw.drew⟩
      | false =>
        go_upto_region 4 with fail
        refine wp_region_held_drew (S := fun w' => w'.cell? ⟨b1, o1 + k * 2, none⟩ = some (.int .i64 (Q (k * 2))) ∧ w'.cell? ⟨b1, o1 + k * 2 + 1, none⟩ = some (.int .i64 (Q (k * 2 + 1))) ∧ w'.cell? ⟨w.heap.size, 0, none⟩ = some (.int .i64 p) ∧ w'.cell? ⟨w.heap.size, 1, none⟩ = some (.int .i64 q)) (by kernel_rfl) ?_ (fun hHeld => ?_)
        · (try dsimp only)
          (first | (go_simp; done) | (go_keep; done))
        refine tq 0 hHeld ?_
        refine tq 1 hHeld ?_
        refine tq 2 hHeld ?_
        refine tq 3 hHeld ?_
        refine tq 4 hHeld ?_
        refine tq 5 hHeld ?_
        refine wpAnyH_done (by kernel_rfl) ?_ _
        go_wp2_with fail
        go_roundw
        case rel => exact ⟨k + 1, by omega, by go_num, hw.drew, hB.dr⟩
        case measure => simp [intOf]; omega
    · obtain rfl : k = N := by omega
      go_wp2_with fail
      go_ret
      exact ⟨_, rfl, hw⟩
abbrev zcEv : Value := .agg #[.bool false, .int .i64 0, .int .i64 0]
theorem infoEv : (Tryz.prog.info? 141).map (fun i => (i.zero, i.size, i.bytes)) = some (some zcEv, 3, 24) := by kernel_rfl
set_option maxRecDepth 20000 in
set_option maxHeartbeats 8000000 in
theorem l10Events_w (a : Option Addr) (N c : Nat) (Q : Nat → Int) (a' : Option Addr) (M c' : Nat) (Q' : Nat → Int) (w : World) (h : Flat w a (N * 2) Q) (h' : Flat w a' (M * 2) Q') (hN : N ≤ 1000) (hM : M ≤ 1000) :
    Calls Tryz.prog 86 #[.slice a N c, .slice a' M c'] w fun e w' => ∃ (a1 : Option Addr) (m c1 : Nat), e = .returned (.slice a1 m c1) ∧ m ≤ N + M ∧ Below w.heap.size w w' := by
  have hset := cset_map
  have L0 := LQ.new (w := w) 141 3 (Below.refl _ w) rfl
  go_enter Tryz.func86, Tryz.ntmps86
  go_upto_region 3 with fail
  go_loopw [5, 6] (fun s5 s6 wr => ∃ (k : Nat) (a1 : Option Addr) (m c1 : Nat), k ≤ N ∧ s6 = .int .i64 (k : Int) ∧ s5 = .slice a1 m c1 ∧ m ≤ 0 + k ∧ LQ w wr 141 3 a1 m c1) (fun _ s6 _ => N - (intOf s6).toNat)
  case atStart => exact ⟨0, _, _, _, Nat.zero_le _, rfl, rfl, by omega, L0⟩
  case round =>
    clear L0
    obtain ⟨k, a1, m, c1, hk, rfl, rfl, hm, hQ⟩ := hrel
    by_cases hlt : k < N
    · have hkN : (k : Int) < (N : Int) := by omega
      obtain ⟨b1, o1, e1, _, hc1⟩ := (h.below hQ.bel) (by omega)
      have r0 : wr.cell? ⟨b1, o1 + k * 2, none⟩ = some (.int .i64 (Q (k * 2))) := by have z := hc1 (k * 2) (by omega); simpa [Nat.add_assoc] using z
      have r1 : wr.cell? ⟨b1, o1 + k * 2 + 1, none⟩ = some (.int .i64 (Q (k * 2 + 1))) := by have z := hc1 (k * 2 + 1) (by omega); simpa [Nat.add_assoc] using z
      clear hc1
      subst e1
      go_upto_region 5 with fail
      go_cut [21] (fun s wc => ∃ b : Bool, s = .bool b ∧ LQ w wc 141 3 a1 m c1)
      case first =>
        go_wp2_with (go_at_call 104; refine (l4In_w a' M c' Q' (Q (k * 2)) (Q (k * 2 + 1)) _ (h'.below hQ.bel) (by omega)).mono ?_; rintro e w5 ⟨b, rfl, hb5⟩)
        go_meet
        exact ⟨_, rfl, hQ.on hb5⟩
      case rest =>
      clear hQ r0 r1
      obtain ⟨b, rfl, hQ⟩ := hcut
      cases b with
      | false =>
        go_wp2_with fail
        go_roundw
        case rel => exact ⟨k + 1, _, _, _, by omega, by go_num, rfl, by omega, hQ⟩
        case measure => simp [intOf]; omega
      | true =>
        obtain ⟨b1', o1', e1', _, hc1⟩ := (h.below hQ.bel) (by omega)
        cases e1'
        have r0 : wc.cell? ⟨b1, o1 + k * 2, none⟩ = some (.int .i64 (Q (k * 2))) := by have z := hc1 (k * 2) (by omega); simpa [Nat.add_assoc] using z
        have r1 : wc.cell? ⟨b1, o1 + k * 2 + 1, none⟩ = some (.int .i64 (Q (k * 2 + 1))) := by have z := hc1 (k * 2 + 1) (by omega); simpa [Nat.add_assoc] using z
        clear hc1
        have hE : Below wc.heap.size wc (wc.alloc (Obj.cells #[.bool false, .int .i64 (Q (k * 2)), .int .i64 (Q (k * 2 + 1))] 141)) := (Below.refl _ _).alloc (Nat.le_refl _) _
        have hQE := hQ.on hE
        have hu : ∀ j u, ([.bool false, .int .i64 (Q (k * 2)), .int .i64 (Q (k * 2 + 1))] : List Value)[j]? = some u → (wc.alloc (Obj.cells #[.bool false, .int .i64 (Q (k * 2)), .int .i64 (Q (k * 2 + 1))] 141)).cell? ⟨wc.heap.size, j, none⟩ = some u := fun j u hj => by
          rcases (show j = 0 ∨ j = 1 ∨ j = 2 ∨ 3 ≤ j by omega) with rfl | rfl | rfl | h3
          · simp at hj; subst hj; go_simp
          · simp at hj; subst hj; go_simp
          · simp at hj; subst hj; go_simp
          · rw [List.getElem?_eq_none (by simp; omega)] at hj; cases hj
        go_wp2_with (refine wpList_pushK rfl _ _ _ rfl 141 3 24 zcEv Tryz.underlying103 infoEv rfl (by decide) (by decide) a1 m c1 rfl hQE wc.heap.size rfl [.bool false, .int .i64 (Q (k * 2)), .int .i64 (Q (k * 2 + 1))] rfl hu (fun u hu => by simp at hu; rcases hu with rfl | rfl | rfl <;> rfl) (by omega) ?_; intro g7 c7 w7 hp7)
        go_roundw
        case rel => exact ⟨k + 1, _, _, _, by omega, by go_num, rfl, by omega, hp7⟩
        case measure => simp [intOf]; omega
    · obtain rfl : N = k := by omega
      go_upto_region 8 with fail
      go_loopw [5, 7] (fun s5 s6 wr => ∃ (k : Nat) (a1 : Option Addr) (m c1 : Nat), k ≤ M ∧ s6 = .int .i64 (k : Int) ∧ s5 = .slice a1 m c1 ∧ m ≤ N + k ∧ LQ w wr 141 3 a1 m c1) (fun _ s6 _ => M - (intOf s6).toNat)
      case atStart => exact ⟨0, _, _, _, Nat.zero_le _, rfl, rfl, by omega, hQ⟩
      case round =>
        clear hQ hm
        obtain ⟨k, a1, m, c1, hk, rfl, rfl, hm, hQ⟩ := hrel
        by_cases hlt : k < M
        · have hkN : (k : Int) < (M : Int) := by omega
          obtain ⟨b1, o1, e1, _, hc1⟩ := (h'.below hQ.bel) (by omega)
          have r0 : wr.cell? ⟨b1, o1 + k * 2, none⟩ = some (.int .i64 (Q' (k * 2))) := by have z := hc1 (k * 2) (by omega); simpa [Nat.add_assoc] using z
          have r1 : wr.cell? ⟨b1, o1 + k * 2 + 1, none⟩ = some (.int .i64 (Q' (k * 2 + 1))) := by have z := hc1 (k * 2 + 1) (by omega); simpa [Nat.add_assoc] using z
          clear hc1
          subst e1
          go_upto_region 10 with fail
          go_cut [42] (fun s wc => ∃ b : Bool, s = .bool b ∧ LQ w wc 141 3 a1 m c1)
          case first =>
            go_wp2_with (go_at_call 104; refine (l4In_w a N c Q (Q' (k * 2)) (Q' (k * 2 + 1)) _ (h.below hQ.bel) (by omega)).mono ?_; rintro e w5 ⟨b, rfl, hb5⟩)
            go_meet
            exact ⟨_, rfl, hQ.on hb5⟩
          case rest =>
          clear hQ r0 r1
          obtain ⟨b, rfl, hQ⟩ := hcut
          cases b with
          | false =>
            go_wp2_with fail
            go_roundw
            case rel => exact ⟨k + 1, _, _, _, by omega, by go_num, rfl, by omega, hQ⟩
            case measure => simp [intOf]; omega
          | true =>
            obtain ⟨b1', o1', e1', _, hc1⟩ := (h'.below hQ.bel) (by omega)
            cases e1'
            have r0 : wc.cell? ⟨b1, o1 + k * 2, none⟩ = some (.int .i64 (Q' (k * 2))) := by have z := hc1 (k * 2) (by omega); simpa [Nat.add_assoc] using z
            have r1 : wc.cell? ⟨b1, o1 + k * 2 + 1, none⟩ = some (.int .i64 (Q' (k * 2 + 1))) := by have z := hc1 (k * 2 + 1) (by omega); simpa [Nat.add_assoc] using z
            clear hc1
            have hE : Below wc.heap.size wc (wc.alloc (Obj.cells #[.bool true, .int .i64 (Q' (k * 2)), .int .i64 (Q' (k * 2 + 1))] 141)) := (Below.refl _ _).alloc (Nat.le_refl _) _
            have hQE := hQ.on hE
            have hu : ∀ j u, ([.bool true, .int .i64 (Q' (k * 2)), .int .i64 (Q' (k * 2 + 1))] : List Value)[j]? = some u → (wc.alloc (Obj.cells #[.bool true, .int .i64 (Q' (k * 2)), .int .i64 (Q' (k * 2 + 1))] 141)).cell? ⟨wc.heap.size, j, none⟩ = some u := fun j u hj => by
              rcases (show j = 0 ∨ j = 1 ∨ j = 2 ∨ 3 ≤ j by omega) with rfl | rfl | rfl | h3
              · simp at hj; subst hj; go_simp
              · simp at hj; subst hj; go_simp
              · simp at hj; subst hj; go_simp
              · rw [List.getElem?_eq_none (by simp; omega)] at hj; cases hj
            go_wp2_with (refine wpList_pushK rfl _ _ _ rfl 141 3 24 zcEv Tryz.underlying103 infoEv rfl (by decide) (by decide) a1 m c1 rfl hQE wc.heap.size rfl [.bool true, .int .i64 (Q' (k * 2)), .int .i64 (Q' (k * 2 + 1))] rfl hu (fun u hu => by simp at hu; rcases hu with rfl | rfl | rfl <;> rfl) (by omega) ?_; intro g7 c7 w7 hp7)
            go_roundw
            case rel => exact ⟨k + 1, _, _, _, by omega, by go_num, rfl, by omega, hp7⟩
            case measure => simp [intOf]; omega
        · obtain rfl : M = k := by omega
          go_wp2_with fail
          go_ret
          exact ⟨_, _, _, rfl, by omega, hQ.bel⟩
end Go.Proofs.YtneacpfdmocifaaGreat
namespace Go.Proofs.YtneacpfdmocifaaGreat
open Go.RowKit
set_option linter.unusedVariables false
set_option linter.unusedSimpArgs false

set_option maxHeartbeats 1000000 in
theorem l2Clamp_any (x y : Int) (w : World) :
    Calls Tryz.prog 131 #[vv x y] w fun e w' => e = .returned (vv (fc x) (fc y)) ∧ Below w.heap.size w w' := by
  have hset := cset_map
  go_enter Tryz.func131, Tryz.ntmps131
  go_wp2
  go_region_with (go_at_call 132; refine (sFixClamp_any _ _).mono ?_; rintro e w' ⟨rfl, rfl⟩)
  all_goals
    go_wp2
    exact bodyPost_ret (v := vv (fc x) (fc y)) (by simp [results, Tryz.results131, go_sem, *]) rfl ⟨rfl, bel_a⟩

theorem l1In_any (n l h : Int) (w : World) :
    Calls Tryz.prog 26 #[.int .i64 n, .int .i64 l, .int .i64 h] w fun e w' => e = .returned (.bool (decide (l ≤ n ∧ n ≤ h))) ∧ w' = w := by
  go_enter Tryz.func26, Tryz.ntmps26
  go_wp2
  all_goals
    go_ret
    refine ⟨ret_bool ?_, rfl⟩
    first | (simp; omega) | (simp; done)

set_option maxHeartbeats 1000000 in
theorem sVecSub_any (x y u v : Int) (w : World) :
    Calls Tryz.prog 130 #[vv x y, vv u v] w fun e w' => e = .returned (vv (fc (fc x - fc u)) (fc (fc y - fc v))) ∧ Below w.heap.size w w' := by
  have hx := fc_bd x
  have hy := fc_bd y
  have hu := fc_bd u
  have hv := fc_bd v
  have hset := cset_map
  go_enter Tryz.func130, Tryz.ntmps130
  go_wp2_with (go_at_call 131; refine (l2Clamp_any _ _ _).mono ?_; rintro e w1 ⟨rfl, hb1⟩; obtain ⟨hc1, hf1⟩ := bcell hb1; have hz1 := hb1.size; (try simp at hz1); have hq1x0a : w.heap.size < w1.heap.size := (by omega); have hq1x1a : w.heap.size + 1 < w1.heap.size := (by omega); have hq1x2a : w.heap.size + 1 + 1 < w1.heap.size := (by omega); have hq1x2b : w.heap.size + 2 < w1.heap.size := (by omega))
  exact bodyPost_ret (v := vv (fc (fc x - fc u)) (fc (fc y - fc v))) (by simp [results, Tryz.results130, go_sem, *]) rfl ⟨rfl, bel_a⟩

set_option maxHeartbeats 1000000 in
theorem sVecDot_any (x y u v : Int) (w : World) :
    Calls Tryz.prog 129 #[vv x y, vv u v] w fun e w' => e = .returned (.int .i64 (vdot x y u v)) ∧ Below w.heap.size w w' := by
  have hx := fc_bd x
  have hy := fc_bd y
  have hu := fc_bd u
  have hv := fc_bd v
  have p := mul_bd hx hu
  have q := mul_bd hy hv
  have hset := cset_map
  go_enter Tryz.func129, Tryz.ntmps129
  go_wp2_with (first
    | (go_at_call 131; refine (l2Clamp_any _ _ _).mono ?_; rintro e w1 ⟨rfl, hb1⟩; obtain ⟨hc1, hf1⟩ := bcell hb1; have hz1 := hb1.size; (try simp at hz1); have hq1x0a : w.heap.size < w1.heap.size := (by omega); have hq1x1a : w.heap.size + 1 < w1.heap.size := (by omega))
    | (go_at_call 132; refine (sFixClamp_any _ _).mono ?_; rintro e w' ⟨rfl, rfl⟩))
  go_ret
  exact ⟨rfl, bel_a⟩

end Go.Proofs.YtneacpfdmocifaaGreat
namespace Go.Proofs.YtneacpfdmocifaaGreat
open Go.RowKit
set_option linter.unusedVariables false
set_option linter.unusedSimpArgs false

theorem l2Square_any (x y : Int) (w : World) (hx : -1500000000 ≤ x ∧ x ≤ 1500000000) (hy : -1500000000 ≤ y ∧ y ≤ 1500000000) :
    Calls Tryz.prog 121 #[vv x y] w fun e w' => e = .returned (.int .i64 (x * x + y * y)) ∧ Below w.heap.size w w' := by
  have p := mul_bd (a := x) (b := x) (A := 1500000000) (B := 1500000000) hx hx
  have q := mul_bd (a := y) (b := y) (A := 1500000000) (B := 1500000000) hy hy
  have hset := cset_map
  go_enter Tryz.func121, Tryz.ntmps121
  go_wp2
  go_ret
  exact ⟨rfl, bel_a⟩

set_option maxHeartbeats 1000000 in
theorem sVecLen_any (x y : Int) (w : World) :
    Calls Tryz.prog 123 #[vv x y] w fun e w' => e = .returned (.int .i64 (vl (fc x) (fc y))) ∧ Below w.heap.size w w' := by
  have hx := fc_bd x
  have hy := fc_bd y
  have hs := sq_bd hx hy
  have hset := cset_map
  go_enter Tryz.func123, Tryz.ntmps123
  go_wp2_with (first
    | (go_at_call 131; refine (l2Clamp_any _ _ _).mono ?_; rintro e w1 ⟨rfl, hb1⟩; obtain ⟨hc1, hf1⟩ := bcell hb1; have hz1 := hb1.size; (try simp at hz1); have hq1x0a : w.heap.size < w1.heap.size := (by omega))
    | (go_at_call 121; refine (l2Square_any _ _ _ (by omega) (by omega)).mono ?_; rintro e w2 ⟨rfl, hb2⟩; obtain ⟨hc2, hf2⟩ := bcell hb2; have hz2 := hb2.size; (try simp at hz2); have hq2x0a : w.heap.size < w2.heap.size := (by omega))
    | (go_at_call 133; refine (l1Root_any _ _ (by omega) (by omega)).mono ?_; rintro e w' ⟨rfl, rfl⟩)
    | (go_at_call 132; refine (sFixClamp_any _ _).mono ?_; rintro e w' ⟨rfl, rfl⟩))
  go_ret
  exact ⟨rfl, bel_a⟩

set_option maxHeartbeats 2000000 in
theorem sVecUnit_any (x y : Int) (w : World) :
    Calls Tryz.prog 122 #[vv x y] w fun e w' => e = .returned (vv (ux (fc x) (fc y)) (uy (fc x) (fc y))) ∧ Below w.heap.size w w' := by
  have hx := fc_bd x
  have hy := fc_bd y
  have hl := vl_bd (fc x) (fc y)
  have f1 := fc_fc x
  have f2 := fc_fc y
  by_cases h0 : vl (fc x) (fc y) = 0
  · have e1 : ux (fc x) (fc y) = 0 := if_pos h0
    have e2 : uy (fc x) (fc y) = 256 := if_pos h0
    have hset := cset_map
    go_enter Tryz.func122, Tryz.ntmps122
    go_wp2_with (first
    | (go_at_call 131; refine (l2Clamp_any _ _ _).mono ?_; rintro e w1 ⟨rfl, hb1⟩; obtain ⟨hc1, hf1⟩ := bcell hb1; have hz1 := hb1.size; (try simp at hz1); have hq1x0a : w.heap.size < w1.heap.size := (by omega); have hq1x1a : w.heap.size + 1 < w1.heap.size := (by omega))
    | (go_at_call 123; refine (sVecLen_any _ _ _).mono ?_; rintro e w6 ⟨rfl, hb6⟩; obtain ⟨hc6, hf6⟩ := bcell hb6; have hz6 := hb6.size; (try simp at hz6); have hq6x0a : w.heap.size < w6.heap.size := (by omega); have hq6x1a : w.heap.size + 1 < w6.heap.size := (by omega)))
    exact bodyPost_ret (v := vv 0 256) (by simp [results, Tryz.results122, go_sem, *]) rfl ⟨by rw [e1, e2], bel_a⟩
  · have t1 := w64 (n := (fc x * 256).tdiv (vl (fc x) (fc y))) (by have := tdiv_bd (x := fc x * 256) (B := 256000000000) (vl (fc x) (fc y)) (by omega); omega)
    have t2 := w64 (n := (fc y * 256).tdiv (vl (fc x) (fc y))) (by have := tdiv_bd (x := fc y * 256) (B := 256000000000) (vl (fc x) (fc y)) (by omega); omega)
    have s1 := i64w (n := (fc x * 256).tdiv (vl (fc x) (fc y))) (by have := tdiv_bd (x := fc x * 256) (B := 256000000000) (vl (fc x) (fc y)) (by omega); omega)
    have s2 := i64w (n := (fc y * 256).tdiv (vl (fc x) (fc y))) (by have := tdiv_bd (x := fc y * 256) (B := 256000000000) (vl (fc x) (fc y)) (by omega); omega)
    have E1 : Hid (ux (fc x) (fc y) = (fc x * 256).tdiv (vl (fc x) (fc y))) := if_neg h0
    have E2 : Hid (uy (fc x) (fc y) = (fc y * 256).tdiv (vl (fc x) (fc y))) := if_neg h0
    have hset := cset_map
    go_enter Tryz.func122, Tryz.ntmps122
    go_wp2_with (first
    | (go_at_call 131; refine (l2Clamp_any _ _ _).mono ?_; rintro e w1 ⟨rfl, hb1⟩; obtain ⟨hc1, hf1⟩ := bcell hb1; have hz1 := hb1.size; (try simp at hz1); have hq1x0a : w.heap.size < w1.heap.size := (by omega); have hq1x1a : w.heap.size + 1 < w1.heap.size := (by omega))
    | (go_at_call 123; refine (sVecLen_any _ _ _).mono ?_; rintro e w6 ⟨rfl, hb6⟩; obtain ⟨hc6, hf6⟩ := bcell hb6; have hz6 := hb6.size; (try simp at hz6); have hq6x0a : w.heap.size < w6.heap.size := (by omega); have hq6x1a : w.heap.size + 1 < w6.heap.size := (by omega)))
    go_region
    all_goals
      go_wp2
      exact bodyPost_ret (v := vv ((fc x * 256).tdiv (vl (fc x) (fc y))) ((fc y * 256).tdiv (vl (fc x) (fc y)))) (by simp [results, Tryz.results122, go_sem, *]) rfl ⟨by rw [E1.out, E2.out], bel_a⟩

end Go.Proofs.YtneacpfdmocifaaGreat
namespace Go.Proofs.YtneacpfdmocifaaGreat
open Go.RowKit
set_option linter.unusedVariables false
set_option linter.unusedSimpArgs false

abbrev b4 (a b c d : Int) : Value := .agg #[.int .i64 a, .int .i64 b, .int .i64 c, .int .i64 d]
/-- none greater -/
def leB (x y u v : Int) : Bool := decide (x ≤ u ∧ y ≤ v)
/-- whether a box is ok -/
def bokB (a b c d : Int) : Bool := vokB a b && (vokB c d && leB a b c d)

end Go.Proofs.YtneacpfdmocifaaGreat
namespace Go.Proofs.YtneacpfdmocifaaGreat
open Go.RowKit
set_option linter.unusedVariables false
set_option linter.unusedSimpArgs false

end Go.Proofs.YtneacpfdmocifaaGreat
namespace Go.Proofs.YtneacpfdmocifaaGreat
open Go.RowKit
set_option linter.unusedVariables false
set_option linter.unusedSimpArgs false

def ptB (a b c d x y : Int) : Bool := decide ((a ≤ x ∧ x ≤ c) ∧ (b ≤ y ∧ y ≤ d))
set_option maxHeartbeats 1000000 in
theorem l3Meets_any (a b c d r s t u : Int) (w : World) :
    Calls Tryz.prog 124 #[b4 a b c d, b4 r s t u] w fun e w' => e = .returned (.bool (leB a b t u && leB r s c d)) ∧ Below w.heap.size w w' := by
  have hset := cset_map
  go_enter Tryz.func124, Tryz.ntmps124
  go_wp2
  all_goals
    go_ret
    refine ⟨ret_bool ?_, bel_a⟩
    unfold leB
    first | (simp [*]; done) | (simp at *; omega) | (simp [*]; omega)

set_option maxHeartbeats 1000000 in
theorem l3Point_any (a b c d x y : Int) (w : World) :
    Calls Tryz.prog 125 #[b4 a b c d, vv x y] w fun e w' => e = .returned (.bool (ptB a b c d x y)) ∧ Below w.heap.size w w' := by
  have hset := cset_map
  go_enter Tryz.func125, Tryz.ntmps125
  go_wp2_with (go_at_call 26; refine (l1In_any _ _ _ _).mono ?_; rintro e w' ⟨rfl, rfl⟩)
  all_goals
    go_ret
    refine ⟨ret_bool ?_, bel_a⟩
    unfold ptB
    first | (simp [*]; done) | (simp at *; omega) | (simp [*]; omega)

end Go.Proofs.YtneacpfdmocifaaGreat
namespace Go.Proofs.YtneacpfdmocifaaGreat
open Go.RowKit
set_option linter.unusedVariables false
set_option linter.unusedSimpArgs false

end Go.Proofs.YtneacpfdmocifaaGreat
namespace Go.Proofs.YtneacpfdmocifaaGreat
open Go.RowKit
set_option linter.unusedVariables false
set_option linter.unusedSimpArgs false

end Go.Proofs.YtneacpfdmocifaaGreat
namespace Go.Proofs.YtneacpfdmocifaaGreat
open Go.RowKit
set_option linter.unusedVariables false
set_option linter.unusedSimpArgs false

end Go.Proofs.YtneacpfdmocifaaGreat
namespace Go.Proofs.YtneacpfdmocifaaGreat
open Go.RowKit
set_option linter.unusedVariables false
set_option linter.unusedSimpArgs false

end Go.Proofs.YtneacpfdmocifaaGreat
namespace Go.Proofs.YtneacpfdmocifaaGreat
open Go.RowKit
set_option linter.unusedVariables false
set_option linter.unusedSimpArgs false

end Go.Proofs.YtneacpfdmocifaaGreat
namespace Go.Proofs.YtneacpfdmocifaaGreat
open Go.RowKit
set_option linter.unusedVariables false
set_option linter.unusedSimpArgs false

/-- the lesser, the greater -/
def mn (x y : Int) : Int := if y < x then y else x
def mx (x y : Int) : Int := if x < y then y else x
end Go.Proofs.YtneacpfdmocifaaGreat
namespace Go.Proofs.YtneacpfdmocifaaGreat
open Go.RowKit
set_option linter.unusedVariables false
set_option linter.unusedSimpArgs false

/-- a number, or 0 where it may not be -/
def bb (o : Bool) (x : Int) : Int := if o = true then x else 0
end Go.Proofs.YtneacpfdmocifaaGreat
namespace Go.Proofs.YtneacpfdmocifaaGreat
open Go.RowKit
set_option linter.unusedVariables false
set_option linter.unusedSimpArgs false

theorem l3Less_any (x y : Int) (w : World) :
    Calls Tryz.prog 74 #[.int .i64 x, .int .i64 y] w fun e w' => e = .returned (.int .i64 (mn x y)) ∧ w' = w := by
  go_enter Tryz.func74, Tryz.ntmps74
  go_wp2
  all_goals
    go_ret
    refine ⟨?_, rfl⟩
    unfold mn
    split <;> first | rfl | (exfalso; omega) | (have hxy : x = y := (by omega); subst hxy; rfl) | (exfalso; simp at *; omega)

theorem l3More_any (x y : Int) (w : World) :
    Calls Tryz.prog 75 #[.int .i64 x, .int .i64 y] w fun e w' => e = .returned (.int .i64 (mx x y)) ∧ w' = w := by
  go_enter Tryz.func75, Tryz.ntmps75
  go_wp2
  all_goals
    go_ret
    refine ⟨?_, rfl⟩
    unfold mx
    split <;> first | rfl | (exfalso; omega) | (have hxy : x = y := (by omega); subst hxy; rfl) | (exfalso; simp at *; omega)

end Go.Proofs.YtneacpfdmocifaaGreat
namespace Go.Proofs.YtneacpfdmocifaaGreat
open Go.RowKit
set_option linter.unusedVariables false
set_option linter.unusedSimpArgs false

set_option maxHeartbeats 4000000 in
theorem l3Near_any (a b c d x y : Int) (w : World) :
    Calls Tryz.prog 126 #[b4 a b c d, vv x y] w fun e w' => e = .returned (vv (mn (mx x a) c) (mn (mx y b) d)) ∧ Below w.heap.size w w' := by
  have hset := cset_map
  go_enter Tryz.func126, Tryz.ntmps126
  go_wp2
  go_region_held3 (fun w' => w'.cell? ⟨w.heap.size, 0, none⟩ = some (.int .i64 a) ∧ w'.cell? ⟨w.heap.size, 1, none⟩ = some (.int .i64 b) ∧ w'.cell? ⟨w.heap.size, 2, none⟩ = some (.int .i64 c) ∧ w'.cell? ⟨w.heap.size, 3, none⟩ = some (.int .i64 d) ∧ w'.cell? ⟨w.heap.size + 1, 0, none⟩ = some (.int .i64 x) ∧ w'.cell? ⟨w.heap.size + 1, 1, none⟩ = some (.int .i64 y)) (first | (go_simp; done) | (go_keep; done)) (first
    | (go_at_call 74; refine (l3Less_any _ _ _).mono ?_; rintro e w' ⟨rfl, rfl⟩)
    | (go_at_call 75; refine (l3More_any _ _ _).mono ?_; rintro e w' ⟨rfl, rfl⟩))
  all_goals
    go_wp2
    exact bodyPost_ret (v := vv (mn (mx x a) c) (mn (mx y b) d)) (by simp [results, Tryz.results126, go_sem, *]) rfl ⟨rfl, bel_a⟩

end Go.Proofs.YtneacpfdmocifaaGreat
namespace Go.Proofs.YtneacpfdmocifaaGreat
open Go.RowKit
set_option linter.unusedVariables false
set_option linter.unusedSimpArgs false

def szB (n : Int) : Bool := decide (1 ≤ n ∧ n ≤ 25600)
theorem isSize_any (n : Int) (w : World) :
    Calls Tryz.prog 105 #[.int .i64 n] w fun e w' => e = .returned (.bool (szB n)) ∧ w' = w := by
  go_enter Tryz.func105, Tryz.ntmps105
  go_wp2
  all_goals
    go_ret
    refine ⟨ret_bool ?_, rfl⟩
    unfold szB
    first | (simp; omega) | (simp; done)

/-- whether a shape is ok -/
def rdB (k wd h : Int) : Bool := decide (k = 1 ∧ (1 ≤ wd ∧ wd ≤ 25600) ∧ h = 0)
def bxB (k wd h : Int) : Bool := decide (k = 2 ∧ (1 ≤ wd ∧ wd ≤ 25600) ∧ (1 ≤ h ∧ h ≤ 25600))
def shB (k wd h : Int) : Bool := rdB k wd h || bxB k wd h
abbrev s3 (k wd h : Int) : Value := .agg #[.int .i64 k, .int .i64 wd, .int .i64 h]

theorem figureOf_round (wd : Int) (w : World) (h1 : 1 ≤ wd) (h2 : wd ≤ 25600) :
    Calls Tryz.prog 89 #[s3 1 wd 0] w fun e w' => e = .returned (.tuple #[.iface 143 (.agg #[.int .i64 wd]), .bool true]) ∧ Below w.heap.size w w' := by
  have hs : szB wd = true := by unfold szB; simp; omega
  go_enter Tryz.func89, Tryz.ntmps89
  go_wp2_with (go_at_call 105; refine (isSize_any _ _).mono ?_; rintro e w' ⟨rfl, rfl⟩)
  go_ret2
  exact ⟨rfl, (Below.refl _ _).alloc (Nat.le_refl _) _⟩
theorem figureOf_box (wd h : Int) (w : World) (h1 : 1 ≤ wd) (h2 : wd ≤ 25600) (h3 : 1 ≤ h) (h4 : h ≤ 25600) :
    Calls Tryz.prog 89 #[s3 2 wd h] w fun e w' => e = .returned (.tuple #[.iface 145 (.agg #[.int .i64 wd, .int .i64 h]), .bool true]) ∧ Below w.heap.size w w' := by
  have hs : szB wd = true := by unfold szB; simp; omega
  have hs2 : szB h = true := by unfold szB; simp; omega
  go_enter Tryz.func89, Tryz.ntmps89
  go_wp2_with (go_at_call 105; refine (isSize_any _ _).mono ?_; rintro e w' ⟨rfl, rfl⟩)
  go_ret2
  exact ⟨rfl, (Below.refl _ _).alloc (Nat.le_refl _) _⟩
set_option maxHeartbeats 1000000 in
theorem figureOf_none (k wd h : Int) (w : World) (hn : shB k wd h = false) :
    Calls Tryz.prog 89 #[s3 k wd h] w fun e w' => e = .returned (.tuple #[.nilIface, .bool false]) ∧ Below w.heap.size w w' := by
  have HN : Hid (¬ ((k = 1 ∧ (1 ≤ wd ∧ wd ≤ 25600) ∧ h = 0) ∨ (k = 2 ∧ (1 ≤ wd ∧ wd ≤ 25600) ∧ (1 ≤ h ∧ h ≤ 25600)))) := by
    unfold shB rdB bxB at hn
    simp only [Bool.or_eq_false_iff, decide_eq_false_iff_not] at hn
    rintro (h | h)
    · exact hn.1 h
    · exact hn.2 h
  clear hn
  have hsz : Hid (∀ n, szB n = true → 1 ≤ n ∧ n ≤ 25600) := by intro n hn; unfold szB at hn; simpa using hn
  go_enter Tryz.func89, Tryz.ntmps89
  go_wp2_with (go_at_call 105; refine (isSize_any _ _).mono ?_; rintro e w' ⟨rfl, rfl⟩)
  all_goals
    first
      | (go_ret2; exact ⟨rfl, (Below.refl _ _).alloc (Nat.le_refl _) _⟩)
      | (exfalso; subst k; exact HN.out (.inl ⟨rfl, hsz.out _ ‹_›, by simpa using ‹(h == 0) = true›⟩))
      | (exfalso; subst k; exact HN.out (.inr ⟨rfl, hsz.out _ ‹szB wd = true›, hsz.out _ ‹szB h = true›⟩))

theorem shapeOk_any (k wd h : Int) (w : World) :
    Calls Tryz.prog 79 #[s3 k wd h] w fun e w' => e = .returned (.bool (shB k wd h)) ∧ Below w.heap.size w w' := by
  by_cases hr : rdB k wd h = true
  · have e : shB k wd h = true := by unfold shB; rw [hr]; rfl
    have E : Hid (shB k wd h = true) := e
    clear e
    unfold rdB at hr
    obtain ⟨rfl, ⟨h1, h2⟩, rfl⟩ := of_decide_eq_true hr
    clear hr
    go_enter Tryz.func79, Tryz.ntmps79
    go_wp2_with (go_at_call 89; refine (figureOf_round _ _ h1 h2).mono ?_; rintro e w1 ⟨rfl, hb1⟩)
    go_ret
    exact ⟨ret_bool E.out.symm, ((Below.refl _ _).alloc (Nat.le_refl _) _).trans (hb1.mono (by simp))⟩
  · by_cases hb : bxB k wd h = true
    · have e : shB k wd h = true := by unfold shB; rw [hb]; simp
      have E : Hid (shB k wd h = true) := e
      clear e hr
      unfold bxB at hb
      obtain ⟨rfl, ⟨h1, h2⟩, h3, h4⟩ := of_decide_eq_true hb
      clear hb
      go_enter Tryz.func79, Tryz.ntmps79
      go_wp2_with (go_at_call 89; refine (figureOf_box _ _ _ h1 h2 h3 h4).mono ?_; rintro e w1 ⟨rfl, hb1⟩)
      go_ret
      exact ⟨ret_bool E.out.symm, ((Below.refl _ _).alloc (Nat.le_refl _) _).trans (hb1.mono (by simp))⟩
    · have e : shB k wd h = false := by unfold shB; simp [hr, hb]
      have E : Hid (shB k wd h = false) := e
      clear e hr hb
      go_enter Tryz.func79, Tryz.ntmps79
      go_wp2_with (go_at_call 89; refine (figureOf_none _ _ _ _ E.out).mono ?_; rintro e w1 ⟨rfl, hb1⟩)
      go_ret
      exact ⟨ret_bool E.out.symm, ((Below.refl _ _).alloc (Nat.le_refl _) _).trans (hb1.mono (by simp))⟩

set_option maxHeartbeats 1000000 in
theorem sShapeOk_any (k wd h : Int) (w : World) :
    Calls Tryz.prog 76 #[s3 k wd h] w fun e w' => e = .returned (.bool (shB k wd h)) ∧ Below w.heap.size w w' := by
  go_enter Tryz.func76, Tryz.ntmps76
  go_wp2_with (go_at_call 26; refine (l1In_any _ _ _ _).mono ?_; rintro e w' ⟨rfl, rfl⟩)
  all_goals
    go_ret
    refine ⟨ret_bool ?_, (Below.refl _ _).alloc (Nat.le_refl _) _⟩
    unfold shB rdB bxB
    first | (simp [*]; done) | (simp at *; subst k; simp [*]; done) | (simp at *; subst k; simp [*]; rfl) | (simp at *; subst k; simp; omega) | (simp at *; simp [*]; done)

end Go.Proofs.YtneacpfdmocifaaGreat
namespace Go.Proofs.YtneacpfdmocifaaGreat
open Go.RowKit
set_option linter.unusedVariables false
set_option linter.unusedSimpArgs false

/-- how two that are round touch: the way, how deep, and whether they do -/
def rdT (dx dy g : Int) : (Int × Int × Int) × Bool := if dx * dx + dy * dy ≤ g * g then ((ux dx dy, uy dx dy, g - vl dx dy), true) else ((0, 0, 0), false)
/-- the side on which it is least deep -/
def bsT (s0 s1 s2 s3 : Int) : Int × Int × Int :=
  let m1 : Int × Int × Int := if s1 < s0 then (-256, 0, s1) else (256, 0, s0)
  let m2 : Int × Int × Int := if s2 < m1.2.2 then (0, 256, s2) else m1
  if s3 < m2.2.2 then (0, -256, s3) else m2
def bxT (a b c d r s t u : Int) : (Int × Int × Int) × Bool := if (leB a b t u && leB r s c d) = true then (bsT (c - r) (t - a) (d - s) (u - b), true) else ((0, 0, 0), false)

theorem sunit_q (x y X Y : Int) (w : World) (e1 : ux (fc x) (fc y) = X) (e2 : uy (fc x) (fc y) = Y) :
    Calls Tryz.prog 122 #[vv x y] w fun e w' => e = .returned (vv X Y) ∧ Below w.heap.size w w' := by
  subst e1; subst e2; exact sVecUnit_any x y w
theorem slen_q (x y L : Int) (w : World) (e : vl (fc x) (fc y) = L) :
    Calls Tryz.prog 123 #[vv x y] w fun e w' => e = .returned (.int .i64 L) ∧ Below w.heap.size w w' := by
  subst e; exact sVecLen_any x y w
set_option maxHeartbeats 4000000 in
theorem l5Rounds_q (a b x y g X Y D : Int) (K : Bool) (w : World) (qa : -3000000 ≤ a ∧ a ≤ 3000000) (qb : -3000000 ≤ b ∧ b ≤ 3000000) (qx : -3000000 ≤ x ∧ x ≤ 3000000) (qy : -3000000 ≤ y ∧ y ≤ 3000000) (g0 : 0 ≤ g ∧ g ≤ 100000) (e : rdT (x - a) (y - b) g = ((X, Y, D), K)) :
    Calls Tryz.prog 113 #[vv a b, vv x y, .int .i64 g] w fun e w' => e = .returned (.tuple #[s3 X Y D, .bool K]) ∧ Below w.heap.size w w' := by
  have hset := cset_map
  obtain ⟨dx, ex⟩ : ∃ z, x - a = z := ⟨_, rfl⟩
  obtain ⟨dy, ey⟩ : ∃ z, y - b = z := ⟨_, rfl⟩
  have w1 := i64w (n := x - a) (by omega)
  have w2 := i64w (n := y - b) (by omega)
  rw [ex] at e w1
  rw [ey] at e w2
  have m3 := mul_bd (a := g) (b := g) (A := 100000) (B := 100000) (by omega) (by omega)
  have w3 := i64w (n := g * g) (by omega)
  unfold rdT at e
  cases dd : decide (g * g < dx * dx + dy * dy) with
  | true =>
    have hn := of_decide_eq_true dd
    rw [if_neg (by omega)] at e
    cases e
    clear hn m3
    go_enter Tryz.func113, Tryz.ntmps113
    go_wp2_with (go_at_call 121; refine (l2Square_any _ _ _ (by omega) (by omega)).mono ?_; rintro e w1 ⟨rfl, hb1⟩; obtain ⟨hc1, hf1⟩ := bcell hb1; have hz1 := hb1.size; (try simp only [World.size_drew, World.size_alloc, World.size_setCell] at hc1 hf1 hz1); obtain ⟨hk1x0, hj1x0, hq1x0⟩ := kfa hb1 (w.heap.size); obtain ⟨hk1x1, hj1x1, hq1x1⟩ := kfa hb1 (w.heap.size + 1); obtain ⟨hk1x2, hj1x2, hq1x2⟩ := kfa hb1 (w.heap.size + 1 + 1); obtain ⟨hk1x3, hj1x3, hq1x3⟩ := kfa hb1 (w.heap.size + 1 + 1 + 1); clear hc1 hf1)
    exact bodyPost_ret (v := .tuple #[s3 0 0 0, .bool false]) (by simp [results, Tryz.results113, go_sem, *]) rfl ⟨rfl, bel_a⟩
  | false =>
    have hn := of_decide_eq_false dd
    rw [if_pos (by omega)] at e
    obtain ⟨L, eL⟩ : ∃ z, vl dx dy = z := ⟨_, rfl⟩
    have lb := vl_bd dx dy
    rw [eL] at lb
    rw [eL] at e
    simp only [Prod.mk.injEq] at e
    obtain ⟨⟨eX, eY, eD⟩, eK⟩ := e
    subst eD
    subst eK
    have f1 := fc_id (n := dx) (by omega) (by omega)
    have f2 := fc_id (n := dy) (by omega) (by omega)
    have eX : ux (fc dx) (fc dy) = X := by rw [f1, f2]; exact eX
    have eY : uy (fc dx) (fc dy) = Y := by rw [f1, f2]; exact eY
    have eL : vl (fc dx) (fc dy) = L := by rw [f1, f2]; exact eL
    have w4 := i64w (n := g - L) (by omega)
    clear hn m3 f1 f2
    go_enter Tryz.func113, Tryz.ntmps113
    go_upto_region 4 with (go_at_call 121; refine (l2Square_any _ _ _ (by omega) (by omega)).mono ?_; rintro e w1 ⟨rfl, hb1⟩; obtain ⟨hc1, hf1⟩ := bcell hb1; have hz1 := hb1.size; (try simp only [World.size_drew, World.size_alloc, World.size_setCell] at hc1 hf1 hz1); obtain ⟨hk1x0, hj1x0, hq1x0⟩ := kfa hb1 (w.heap.size); obtain ⟨hk1x1, hj1x1, hq1x1⟩ := kfa hb1 (w.heap.size + 1); obtain ⟨hk1x2, hj1x2, hq1x2⟩ := kfa hb1 (w.heap.size + 1 + 1); obtain ⟨hk1x3, hj1x3, hq1x3⟩ := kfa hb1 (w.heap.size + 1 + 1 + 1); clear hc1 hf1)
    refine wp_region_held_drew (S := fun w' => w'.cell? ⟨w.heap.size + 1 + 1 + 1, 0, none⟩ = some (.int .i64 dx) ∧ w'.cell? ⟨w.heap.size + 1 + 1 + 1, 1, none⟩ = some (.int .i64 dy)) (by kernel_rfl) ?_ (fun hHeld => ?_)
    · (try dsimp only)
      (first | (go_simp; done) | (go_keep; done))
    refine tq 0 hHeld ?_
    refine tq 2 hHeld ?_
    refine tq 3 hHeld ?_
    (refine tc 1 fun K hK => ?_; go_simp; (go_at_call 122; refine (sunit_q _ _ _ _ _ eX eY).mono ?_; rintro e w2 ⟨rfl, hb2⟩; obtain ⟨hc2, hf2⟩ := bcell hb2; have hz2 := hb2.size; (try simp only [World.size_drew, World.size_alloc, World.size_setCell] at hc2 hf2 hz2); obtain ⟨hk2x0, hj2x0, hq2x0⟩ := kfa hb2 (w.heap.size); obtain ⟨hk2x1, hj2x1, hq2x1⟩ := kfa hb2 (w.heap.size + 1); obtain ⟨hk2x2, hj2x2, hq2x2⟩ := kfa hb2 (w.heap.size + 1 + 1); obtain ⟨hk2x3, hj2x3, hq2x3⟩ := kfa hb2 (w.heap.size + 1 + 1 + 1); clear hc2 hf2); (try go_wp2_with fail); refine tr hK (fun hHeld => ?_); clear hK K)
    (refine tc 4 fun K hK => ?_; go_simp; (go_at_call 123; refine (slen_q _ _ _ _ eL).mono ?_; rintro e w3 ⟨rfl, hb3⟩; obtain ⟨hc3, hf3⟩ := bcell hb3; have hz3 := hb3.size; (try simp only [World.size_drew, World.size_alloc, World.size_setCell] at hc3 hf3 hz3); obtain ⟨hk3x0, hj3x0, hq3x0⟩ := kfa hb3 (w.heap.size); obtain ⟨hk3x1, hj3x1, hq3x1⟩ := kfa hb3 (w.heap.size + 1); obtain ⟨hk3x2, hj3x2, hq3x2⟩ := kfa hb3 (w.heap.size + 1 + 1); obtain ⟨hk3x3, hj3x3, hq3x3⟩ := kfa hb3 (w.heap.size + 1 + 1 + 1); clear hc3 hf3); (try go_wp2_with fail); refine tr hK (fun hHeld => ?_); clear hK K)
    refine tq 5 hHeld ?_
    refine tq 6 hHeld ?_
    (refine tc 7 fun K hK => ?_; go_simp; refine tr hK (fun hHeld => ?_); clear hK K)
    refine tq 8 hHeld ?_
    refine wpAnyH_done (by kernel_rfl) ?_ _
    go_wp2_with fail
    exact bodyPost_ret (v := .tuple #[s3 X Y (g - L), .bool true]) (by simp [results, Tryz.results113, go_sem, *]) rfl ⟨rfl, bel_a⟩

theorem smeets_q (a b c d r s t u : Int) (z : Bool) (w : World) (e : (leB a b t u && leB r s c d) = z) :
    Calls Tryz.prog 124 #[b4 a b c d, b4 r s t u] w fun e w' => e = .returned (.bool z) ∧ Below w.heap.size w w' := by
  subst e; exact l3Meets_any a b c d r s t u w
set_option maxHeartbeats 8000000 in
theorem l5Boxes_q (a b c d r s t u X Y D : Int) (K : Bool) (w : World) (qa : -3000000 ≤ a ∧ a ≤ 3000000) (qb : -3000000 ≤ b ∧ b ≤ 3000000) (qc : -3000000 ≤ c ∧ c ≤ 3000000) (qd : -3000000 ≤ d ∧ d ≤ 3000000) (qr : -3000000 ≤ r ∧ r ≤ 3000000) (qs : -3000000 ≤ s ∧ s ≤ 3000000) (qt : -3000000 ≤ t ∧ t ≤ 3000000) (qu : -3000000 ≤ u ∧ u ≤ 3000000) (e : bxT a b c d r s t u = ((X, Y, D), K)) :
    Calls Tryz.prog 114 #[b4 a b c d, b4 r s t u] w fun e w' => e = .returned (.tuple #[s3 X Y D, .bool K]) ∧ Below w.heap.size w w' := by
  have hset := cset_map
  unfold bxT at e
  cases eM : (leB a b t u && leB r s c d) with
  | false =>
    rw [if_neg (by simp [eM])] at e
    cases e
    go_enter Tryz.func114, Tryz.ntmps114
    go_wp2_with (go_at_call 124; refine (smeets_q _ _ _ _ _ _ _ _ _ _ eM).mono ?_; rintro e w1 ⟨rfl, hb1⟩; obtain ⟨hc1, hf1⟩ := bcell hb1; have hz1 := hb1.size; (try simp only [World.size_drew, World.size_alloc, World.size_setCell] at hc1 hf1 hz1); obtain ⟨hk1x0, hj1x0, hq1x0⟩ := kfa hb1 (w.heap.size); obtain ⟨hk1x1, hj1x1, hq1x1⟩ := kfa hb1 (w.heap.size + 1); obtain ⟨hk1x2, hj1x2, hq1x2⟩ := kfa hb1 (w.heap.size + 1 + 1); clear hc1 hf1)
    exact bodyPost_ret (v := .tuple #[s3 0 0 0, .bool false]) (by simp [results, Tryz.results114, go_sem, *]) rfl ⟨rfl, bel_a⟩
  | true =>
    rw [if_pos eM] at e
    obtain ⟨s0, es0⟩ : ∃ z, c - r = z := ⟨_, rfl⟩
    have ws0 := i64w (n := c - r) (by omega)
    rw [es0] at e ws0
    obtain ⟨s1, es1⟩ : ∃ z, t - a = z := ⟨_, rfl⟩
    have ws1 := i64w (n := t - a) (by omega)
    rw [es1] at e ws1
    obtain ⟨s2, es2⟩ : ∃ z, d - s = z := ⟨_, rfl⟩
    have ws2 := i64w (n := d - s) (by omega)
    rw [es2] at e ws2
    obtain ⟨s3', es3'⟩ : ∃ z, u - b = z := ⟨_, rfl⟩
    have ws3' := i64w (n := u - b) (by omega)
    rw [es3'] at e ws3'
    unfold bsT at e
    cases d1 : decide (s1 < s0) with
    | true =>
      simp only [if_pos (of_decide_eq_true d1)] at e
      cases d2 : decide (s2 < s1) with
      | true =>
        simp only [if_pos (of_decide_eq_true d2)] at e
        cases d3 : decide (s3' < s2) with
        | true =>
          simp only [if_pos (of_decide_eq_true d3)] at e
          simp only [Prod.mk.injEq] at e
          obtain ⟨⟨eX, eY, eD⟩, eK⟩ := e
          subst eX
          subst eY
          subst eD
          subst eK
          go_enter Tryz.func114, Tryz.ntmps114
          go_wp2_with (go_at_call 124; refine (smeets_q _ _ _ _ _ _ _ _ _ _ eM).mono ?_; rintro e w1 ⟨rfl, hb1⟩; obtain ⟨hc1, hf1⟩ := bcell hb1; have hz1 := hb1.size; (try simp only [World.size_drew, World.size_alloc, World.size_setCell] at hc1 hf1 hz1); obtain ⟨hk1x0, hj1x0, hq1x0⟩ := kfa hb1 (w.heap.size); obtain ⟨hk1x1, hj1x1, hq1x1⟩ := kfa hb1 (w.heap.size + 1); obtain ⟨hk1x2, hj1x2, hq1x2⟩ := kfa hb1 (w.heap.size + 1 + 1); clear hc1 hf1)
          exact bodyPost_ret (v := .tuple #[s3 0 (-256) s3', .bool true]) (by simp [results, Tryz.results114, go_sem, *]) rfl ⟨rfl, bel_a⟩
        | false =>
          simp only [if_neg (of_decide_eq_false d3)] at e
          simp only [Prod.mk.injEq] at e
          obtain ⟨⟨eX, eY, eD⟩, eK⟩ := e
          subst eX
          subst eY
          subst eD
          subst eK
          go_enter Tryz.func114, Tryz.ntmps114
          go_wp2_with (go_at_call 124; refine (smeets_q _ _ _ _ _ _ _ _ _ _ eM).mono ?_; rintro e w1 ⟨rfl, hb1⟩; obtain ⟨hc1, hf1⟩ := bcell hb1; have hz1 := hb1.size; (try simp only [World.size_drew, World.size_alloc, World.size_setCell] at hc1 hf1 hz1); obtain ⟨hk1x0, hj1x0, hq1x0⟩ := kfa hb1 (w.heap.size); obtain ⟨hk1x1, hj1x1, hq1x1⟩ := kfa hb1 (w.heap.size + 1); obtain ⟨hk1x2, hj1x2, hq1x2⟩ := kfa hb1 (w.heap.size + 1 + 1); clear hc1 hf1)
          exact bodyPost_ret (v := .tuple #[s3 0 256 s2, .bool true]) (by simp [results, Tryz.results114, go_sem, *]) rfl ⟨rfl, bel_a⟩
      | false =>
        simp only [if_neg (of_decide_eq_false d2)] at e
        cases d3 : decide (s3' < s1) with
        | true =>
          simp only [if_pos (of_decide_eq_true d3)] at e
          simp only [Prod.mk.injEq] at e
          obtain ⟨⟨eX, eY, eD⟩, eK⟩ := e
          subst eX
          subst eY
          subst eD
          subst eK
          go_enter Tryz.func114, Tryz.ntmps114
          go_wp2_with (go_at_call 124; refine (smeets_q _ _ _ _ _ _ _ _ _ _ eM).mono ?_; rintro e w1 ⟨rfl, hb1⟩; obtain ⟨hc1, hf1⟩ := bcell hb1; have hz1 := hb1.size; (try simp only [World.size_drew, World.size_alloc, World.size_setCell] at hc1 hf1 hz1); obtain ⟨hk1x0, hj1x0, hq1x0⟩ := kfa hb1 (w.heap.size); obtain ⟨hk1x1, hj1x1, hq1x1⟩ := kfa hb1 (w.heap.size + 1); obtain ⟨hk1x2, hj1x2, hq1x2⟩ := kfa hb1 (w.heap.size + 1 + 1); clear hc1 hf1)
          exact bodyPost_ret (v := .tuple #[s3 0 (-256) s3', .bool true]) (by simp [results, Tryz.results114, go_sem, *]) rfl ⟨rfl, bel_a⟩
        | false =>
          simp only [if_neg (of_decide_eq_false d3)] at e
          simp only [Prod.mk.injEq] at e
          obtain ⟨⟨eX, eY, eD⟩, eK⟩ := e
          subst eX
          subst eY
          subst eD
          subst eK
          go_enter Tryz.func114, Tryz.ntmps114
          go_wp2_with (go_at_call 124; refine (smeets_q _ _ _ _ _ _ _ _ _ _ eM).mono ?_; rintro e w1 ⟨rfl, hb1⟩; obtain ⟨hc1, hf1⟩ := bcell hb1; have hz1 := hb1.size; (try simp only [World.size_drew, World.size_alloc, World.size_setCell] at hc1 hf1 hz1); obtain ⟨hk1x0, hj1x0, hq1x0⟩ := kfa hb1 (w.heap.size); obtain ⟨hk1x1, hj1x1, hq1x1⟩ := kfa hb1 (w.heap.size + 1); obtain ⟨hk1x2, hj1x2, hq1x2⟩ := kfa hb1 (w.heap.size + 1 + 1); clear hc1 hf1)
          exact bodyPost_ret (v := .tuple #[s3 (-256) 0 s1, .bool true]) (by simp [results, Tryz.results114, go_sem, *]) rfl ⟨rfl, bel_a⟩
    | false =>
      simp only [if_neg (of_decide_eq_false d1)] at e
      cases d2 : decide (s2 < s0) with
      | true =>
        simp only [if_pos (of_decide_eq_true d2)] at e
        cases d3 : decide (s3' < s2) with
        | true =>
          simp only [if_pos (of_decide_eq_true d3)] at e
          simp only [Prod.mk.injEq] at e
          obtain ⟨⟨eX, eY, eD⟩, eK⟩ := e
          subst eX
          subst eY
          subst eD
          subst eK
          go_enter Tryz.func114, Tryz.ntmps114
          go_wp2_with (go_at_call 124; refine (smeets_q _ _ _ _ _ _ _ _ _ _ eM).mono ?_; rintro e w1 ⟨rfl, hb1⟩; obtain ⟨hc1, hf1⟩ := bcell hb1; have hz1 := hb1.size; (try simp only [World.size_drew, World.size_alloc, World.size_setCell] at hc1 hf1 hz1); obtain ⟨hk1x0, hj1x0, hq1x0⟩ := kfa hb1 (w.heap.size); obtain ⟨hk1x1, hj1x1, hq1x1⟩ := kfa hb1 (w.heap.size + 1); obtain ⟨hk1x2, hj1x2, hq1x2⟩ := kfa hb1 (w.heap.size + 1 + 1); clear hc1 hf1)
          exact bodyPost_ret (v := .tuple #[s3 0 (-256) s3', .bool true]) (by simp [results, Tryz.results114, go_sem, *]) rfl ⟨rfl, bel_a⟩
        | false =>
          simp only [if_neg (of_decide_eq_false d3)] at e
          simp only [Prod.mk.injEq] at e
          obtain ⟨⟨eX, eY, eD⟩, eK⟩ := e
          subst eX
          subst eY
          subst eD
          subst eK
          go_enter Tryz.func114, Tryz.ntmps114
          go_wp2_with (go_at_call 124; refine (smeets_q _ _ _ _ _ _ _ _ _ _ eM).mono ?_; rintro e w1 ⟨rfl, hb1⟩; obtain ⟨hc1, hf1⟩ := bcell hb1; have hz1 := hb1.size; (try simp only [World.size_drew, World.size_alloc, World.size_setCell] at hc1 hf1 hz1); obtain ⟨hk1x0, hj1x0, hq1x0⟩ := kfa hb1 (w.heap.size); obtain ⟨hk1x1, hj1x1, hq1x1⟩ := kfa hb1 (w.heap.size + 1); obtain ⟨hk1x2, hj1x2, hq1x2⟩ := kfa hb1 (w.heap.size + 1 + 1); clear hc1 hf1)
          exact bodyPost_ret (v := .tuple #[s3 0 256 s2, .bool true]) (by simp [results, Tryz.results114, go_sem, *]) rfl ⟨rfl, bel_a⟩
      | false =>
        simp only [if_neg (of_decide_eq_false d2)] at e
        cases d3 : decide (s3' < s0) with
        | true =>
          simp only [if_pos (of_decide_eq_true d3)] at e
          simp only [Prod.mk.injEq] at e
          obtain ⟨⟨eX, eY, eD⟩, eK⟩ := e
          subst eX
          subst eY
          subst eD
          subst eK
          go_enter Tryz.func114, Tryz.ntmps114
          go_wp2_with (go_at_call 124; refine (smeets_q _ _ _ _ _ _ _ _ _ _ eM).mono ?_; rintro e w1 ⟨rfl, hb1⟩; obtain ⟨hc1, hf1⟩ := bcell hb1; have hz1 := hb1.size; (try simp only [World.size_drew, World.size_alloc, World.size_setCell] at hc1 hf1 hz1); obtain ⟨hk1x0, hj1x0, hq1x0⟩ := kfa hb1 (w.heap.size); obtain ⟨hk1x1, hj1x1, hq1x1⟩ := kfa hb1 (w.heap.size + 1); obtain ⟨hk1x2, hj1x2, hq1x2⟩ := kfa hb1 (w.heap.size + 1 + 1); clear hc1 hf1)
          exact bodyPost_ret (v := .tuple #[s3 0 (-256) s3', .bool true]) (by simp [results, Tryz.results114, go_sem, *]) rfl ⟨rfl, bel_a⟩
        | false =>
          simp only [if_neg (of_decide_eq_false d3)] at e
          simp only [Prod.mk.injEq] at e
          obtain ⟨⟨eX, eY, eD⟩, eK⟩ := e
          subst eX
          subst eY
          subst eD
          subst eK
          go_enter Tryz.func114, Tryz.ntmps114
          go_wp2_with (go_at_call 124; refine (smeets_q _ _ _ _ _ _ _ _ _ _ eM).mono ?_; rintro e w1 ⟨rfl, hb1⟩; obtain ⟨hc1, hf1⟩ := bcell hb1; have hz1 := hb1.size; (try simp only [World.size_drew, World.size_alloc, World.size_setCell] at hc1 hf1 hz1); obtain ⟨hk1x0, hj1x0, hq1x0⟩ := kfa hb1 (w.heap.size); obtain ⟨hk1x1, hj1x1, hq1x1⟩ := kfa hb1 (w.heap.size + 1); obtain ⟨hk1x2, hj1x2, hq1x2⟩ := kfa hb1 (w.heap.size + 1 + 1); clear hc1 hf1)
          exact bodyPost_ret (v := .tuple #[s3 256 0 s0, .bool true]) (by simp [results, Tryz.results114, go_sem, *]) rfl ⟨rfl, bel_a⟩
end Go.Proofs.YtneacpfdmocifaaGreat
namespace Go.Proofs.YtneacpfdmocifaaGreat
open Go.RowKit
set_option linter.unusedVariables false
set_option linter.unusedSimpArgs false

def mxT (a b c d x y g : Int) : (Int × Int × Int) × Bool := if ptB a b c d x y = true then (((bsT (c - x) (x - a) (d - y) (y - b)).1, (bsT (c - x) (x - a) (d - y) (y - b)).2.1, (bsT (c - x) (x - a) (d - y) (y - b)).2.2 + g), true) else rdT (x - mn (mx x a) c) (y - mn (mx y b) d) g
theorem bsT_bd {s0 s1 s2 s3 B : Int} (h0 : -B ≤ s0 ∧ s0 ≤ B) (h1 : -B ≤ s1 ∧ s1 ≤ B) (h2 : -B ≤ s2 ∧ s2 ≤ B) (h3 : -B ≤ s3 ∧ s3 ≤ B) : -B ≤ (bsT s0 s1 s2 s3).2.2 ∧ (bsT s0 s1 s2 s3).2.2 ≤ B ∧ (-256 ≤ (bsT s0 s1 s2 s3).1 ∧ (bsT s0 s1 s2 s3).1 ≤ 256) ∧ (-256 ≤ (bsT s0 s1 s2 s3).2.1 ∧ (bsT s0 s1 s2 s3).2.1 ≤ 256) := by
  unfold bsT
  by_cases a : s1 < s0
  · simp only [if_pos a]
    by_cases b : s2 < s1
    · simp only [if_pos b]
      by_cases c : s3 < s2
      · simp only [if_pos c]; omega
      · simp only [if_neg c]; omega
    · simp only [if_neg b]
      by_cases c : s3 < s1
      · simp only [if_pos c]; omega
      · simp only [if_neg c]; omega
  · simp only [if_neg a]
    by_cases b : s2 < s0
    · simp only [if_pos b]
      by_cases c : s3 < s2
      · simp only [if_pos c]; omega
      · simp only [if_neg c]; omega
    · simp only [if_neg b]
      by_cases c : s3 < s0
      · simp only [if_pos c]; omega
      · simp only [if_neg c]; omega
theorem near_in {a c x B : Int} (ha : -B ≤ a ∧ a ≤ B) (hc : -B ≤ c ∧ c ≤ B) (hx : -B ≤ x ∧ x ≤ B) : -B ≤ mn (mx x a) c ∧ mn (mx x a) c ≤ B := by
  unfold mn mx; repeat' split <;> omega

theorem spoint_q (a b c d x y : Int) (z : Bool) (w : World) (e : ptB a b c d x y = z) :
    Calls Tryz.prog 125 #[b4 a b c d, vv x y] w fun e w' => e = .returned (.bool z) ∧ Below w.heap.size w w' := by
  subst e; exact l3Point_any a b c d x y w
theorem snear_q (a b c d x y X Y : Int) (w : World) (e1 : mn (mx x a) c = X) (e2 : mn (mx y b) d = Y) :
    Calls Tryz.prog 126 #[b4 a b c d, vv x y] w fun e w' => e = .returned (vv X Y) ∧ Below w.heap.size w w' := by
  subst e1; subst e2; exact l3Near_any a b c d x y w
set_option maxHeartbeats 8000000 in
theorem l5Mixed_q (a b c d x y g X Y D : Int) (K : Bool) (w : World) (qa : -3000000 ≤ a ∧ a ≤ 3000000) (qb : -3000000 ≤ b ∧ b ≤ 3000000) (qc : -3000000 ≤ c ∧ c ≤ 3000000) (qd : -3000000 ≤ d ∧ d ≤ 3000000) (qx : -3000000 ≤ x ∧ x ≤ 3000000) (qy : -3000000 ≤ y ∧ y ≤ 3000000) (g0 : 0 ≤ g ∧ g ≤ 100000) (e : mxT a b c d x y g = ((X, Y, D), K)) :
    Calls Tryz.prog 116 #[b4 a b c d, vv x y, .int .i64 g] w fun e w' => e = .returned (.tuple #[s3 X Y D, .bool K]) ∧ Below w.heap.size w w' := by
  have hset := cset_map
  unfold mxT at e
  cases eP : ptB a b c d x y with
  | true =>
    rw [if_pos eP] at e
    have hb := bsT_bd (s0 := c - x) (s1 := x - a) (s2 := d - y) (s3 := y - b) (B := 6000000) (by omega) (by omega) (by omega) (by omega)
    obtain ⟨⟨P, Q, E⟩, eQ⟩ : ∃ z, bsT (c - x) (x - a) (d - y) (y - b) = z := ⟨_, rfl⟩
    rw [eQ] at e hb
    dsimp only at hb
    simp only [Prod.mk.injEq] at e
    obtain ⟨⟨eX, eY, eD⟩, eK⟩ := e
    subst eX
    subst eY
    subst eD
    subst eK
    have eB : bxT a b c d x y x y = ((P, Q, E), true) := by
      have hm : (leB a b x y && leB x y c d) = true := by
        unfold ptB at eP; have := of_decide_eq_true eP; unfold leB; simp only [Bool.and_eq_true, decide_eq_true_eq]; omega
      unfold bxT; rw [if_pos hm, eQ]
    have w1 := i64w (n := E + g) (by have := hb.1; have := hb.2.1; omega)
    clear hb eQ
    go_enter Tryz.func116, Tryz.ntmps116
    go_wp2_with (first
    | (go_at_call 125; refine (spoint_q _ _ _ _ _ _ _ _ eP).mono ?_; rintro e w1 ⟨rfl, hb1⟩; obtain ⟨hc1, hf1⟩ := bcell hb1; have hz1 := hb1.size; (try simp only [World.size_drew, World.size_alloc, World.size_setCell] at hc1 hf1 hz1); obtain ⟨hk1x0, hj1x0, hq1x0⟩ := kfa hb1 (w.heap.size); obtain ⟨hk1x1, hj1x1, hq1x1⟩ := kfa hb1 (w.heap.size + 1); obtain ⟨hk1x2, hj1x2, hq1x2⟩ := kfa hb1 (w.heap.size + 1 + 1); clear hc1 hf1)
    | (go_at_call 114; refine (l5Boxes_q _ _ _ _ _ _ _ _ P Q E true _ (by omega) (by omega) (by omega) (by omega) (by omega) (by omega) (by omega) (by omega) eB).mono ?_; rintro e w2 ⟨rfl, hb2⟩; obtain ⟨hc2, hf2⟩ := bcell hb2; have hz2 := hb2.size; (try simp only [World.size_drew, World.size_alloc, World.size_setCell] at hc2 hf2 hz2); obtain ⟨hk2x0, hj2x0, hq2x0⟩ := kfa hb2 (w.heap.size); obtain ⟨hk2x1, hj2x1, hq2x1⟩ := kfa hb2 (w.heap.size + 1); obtain ⟨hk2x2, hj2x2, hq2x2⟩ := kfa hb2 (w.heap.size + 1 + 1); clear hc2 hf2))
    exact bodyPost_ret (v := .tuple #[s3 P Q (E + g), .bool true]) (by simp [results, Tryz.results116, go_sem, *]) rfl ⟨rfl, bel_a⟩
  | false =>
    rw [if_neg (by simp [eP])] at e
    have n1 := near_in (a := a) (c := c) (x := x) (B := 3000000) (by omega) (by omega) (by omega)
    have n2 := near_in (a := b) (c := d) (x := y) (B := 3000000) (by omega) (by omega) (by omega)
    obtain ⟨nx, eN1⟩ : ∃ z, mn (mx x a) c = z := ⟨_, rfl⟩
    obtain ⟨ny, eN2⟩ : ∃ z, mn (mx y b) d = z := ⟨_, rfl⟩
    rw [eN1] at e n1
    rw [eN2] at e n2
    go_enter Tryz.func116, Tryz.ntmps116
    go_upto_region 5 with (go_at_call 125; refine (spoint_q _ _ _ _ _ _ _ _ eP).mono ?_; rintro e w1 ⟨rfl, hb1⟩; obtain ⟨hc1, hf1⟩ := bcell hb1; have hz1 := hb1.size; (try simp only [World.size_drew, World.size_alloc, World.size_setCell] at hc1 hf1 hz1); obtain ⟨hk1x0, hj1x0, hq1x0⟩ := kfa hb1 (w.heap.size); obtain ⟨hk1x1, hj1x1, hq1x1⟩ := kfa hb1 (w.heap.size + 1); obtain ⟨hk1x2, hj1x2, hq1x2⟩ := kfa hb1 (w.heap.size + 1 + 1); clear hc1 hf1)
    refine wp_region_held_drew (S := fun w' => w'.cell? ⟨w.heap.size, 0, none⟩ = some (.int .i64 a) ∧ w'.cell? ⟨w.heap.size, 1, none⟩ = some (.int .i64 b) ∧ w'.cell? ⟨w.heap.size, 2, none⟩ = some (.int .i64 c) ∧ w'.cell? ⟨w.heap.size, 3, none⟩ = some (.int .i64 d) ∧ w'.cell? ⟨w.heap.size + 1, 0, none⟩ = some (.int .i64 x) ∧ w'.cell? ⟨w.heap.size + 1, 1, none⟩ = some (.int .i64 y)) (by kernel_rfl) ?_ (fun hHeld => ?_)
    · (try dsimp only)
      (first | (go_simp; done) | (go_keep; done))
    refine tq 0 hHeld ?_
    refine tq 1 hHeld ?_
    refine tq 3 hHeld ?_
    refine tq 4 hHeld ?_
    (refine tc 2 fun K hK => ?_; go_simp; (go_at_call 126; refine (snear_q _ _ _ _ _ _ _ _ _ eN1 eN2).mono ?_; rintro e w3 ⟨rfl, hb3⟩; obtain ⟨hc3, hf3⟩ := bcell hb3; have hz3 := hb3.size; (try simp only [World.size_drew, World.size_alloc, World.size_setCell] at hc3 hf3 hz3); obtain ⟨hk3x0, hj3x0, hq3x0⟩ := kfa hb3 (w.heap.size); obtain ⟨hk3x1, hj3x1, hq3x1⟩ := kfa hb3 (w.heap.size + 1); obtain ⟨hk3x2, hj3x2, hq3x2⟩ := kfa hb3 (w.heap.size + 1 + 1); clear hc3 hf3); (try go_wp2_with fail); refine tr hK (fun hHeld => ?_); clear hK K)
    (refine tc 5 fun K hK => ?_; go_simp; (go_at_call 113; refine (l5Rounds_q nx ny x y g X Y D _ _ (by omega) (by omega) (by omega) (by omega) (by omega) e).mono ?_; rintro e w4 ⟨rfl, hb4⟩; obtain ⟨hc4, hf4⟩ := bcell hb4; have hz4 := hb4.size; (try simp only [World.size_drew, World.size_alloc, World.size_setCell] at hc4 hf4 hz4); obtain ⟨hk4x0, hj4x0, hq4x0⟩ := kfa hb4 (w.heap.size); obtain ⟨hk4x1, hj4x1, hq4x1⟩ := kfa hb4 (w.heap.size + 1); obtain ⟨hk4x2, hj4x2, hq4x2⟩ := kfa hb4 (w.heap.size + 1 + 1); clear hc4 hf4); (try go_wp2_with fail); refine tr hK (fun hHeld => ?_); clear hK K)
    refine tq 6 hHeld ?_
    refine tq 7 hHeld ?_
    (refine tc 8 fun K hK => ?_; go_simp; refine tr hK (fun hHeld => ?_); clear hK K)
    refine tq 9 hHeld ?_
    refine wpAnyH_done (by kernel_rfl) ?_ _
    go_wp2_with fail
    exact bodyPost_ret (v := .tuple #[s3 X Y D, .bool K]) (by simp [results, Tryz.results116, go_sem, *]) rfl ⟨rfl, bel_a⟩
set_option maxHeartbeats 4000000 in
theorem l5Turn_q (x y k : Int) (w : World) (hx : -2000000000 ≤ x ∧ x ≤ 2000000000) (hy : -2000000000 ≤ y ∧ y ≤ 2000000000) :
    Calls Tryz.prog 117 #[s3 x y k] w fun e w' => e = .returned (s3 (-x) (-y) k) ∧ Below w.heap.size w w' := by
  have hset := cset_map
  have w1 := i64w (n := -x) (by omega)
  have w2 := i64w (n := -y) (by omega)
  go_enter Tryz.func117, Tryz.ntmps117
  go_wp2_with fail
  exact bodyPost_ret (v := s3 (-x) (-y) k) (by simp [results, Tryz.results117, go_sem, *]) rfl ⟨rfl, bel_a⟩
end Go.Proofs.YtneacpfdmocifaaGreat
namespace Go.Proofs.YtneacpfdmocifaaGreat
open Go.RowKit
set_option linter.unusedVariables false
set_option linter.unusedSimpArgs false

/-- how far up a shape goes -/
def hh (k wd h : Int) : Int := if k = 1 then wd else h
theorem inB_of {l x y : Int} (h : inB l x y = true) : (-l ≤ x ∧ x ≤ l) ∧ (-l ≤ y ∧ y ≤ l) := by
  unfold inB at h; simp only [decide_eq_true_eq] at h; omega

set_option maxHeartbeats 1000000 in
theorem l3Place_any (x y : Int) (w : World) :
    Calls Tryz.prog 77 #[vv x y] w fun e w' => e = .returned (.bool (inB 2560000 x y)) ∧ Below w.heap.size w w' := by
  have hset := cset_map
  go_enter Tryz.func77, Tryz.ntmps77
  go_wp2_with (go_at_call 26; refine (l1In_any _ _ _ _).mono ?_; rintro e w' ⟨rfl, rfl⟩)
  all_goals
    go_ret
    refine ⟨ret_bool ?_, bel_a⟩
    unfold inB
    first | (simp [*]; done) | (simp at *; omega) | (simp [*]; omega)

set_option maxHeartbeats 2000000 in
theorem l3Bounds_b (wd h x y : Int) (w : World) (h1 : 1 ≤ wd) (h2 : wd ≤ 25600) (h3 : 1 ≤ h) (h4 : h ≤ 25600) (hx : -2560000 ≤ x ∧ x ≤ 2560000) (hy : -2560000 ≤ y ∧ y ≤ 2560000) :
    Calls Tryz.prog 115 #[s3 2 wd h, vv x y] w fun e w' => e = .returned (b4 (x - wd) (y - h) (x + wd) (y + h)) ∧ Below w.heap.size w w' := by
  have hset := cset_map
  go_enter Tryz.func115, Tryz.ntmps115
  go_wp2
  all_goals
    exact bodyPost_ret (v := b4 (x - wd) (y - h) (x + wd) (y + h)) (by simp [results, Tryz.results115, go_sem, *]) rfl ⟨rfl, bel_a⟩

end Go.Proofs.YtneacpfdmocifaaGreat
