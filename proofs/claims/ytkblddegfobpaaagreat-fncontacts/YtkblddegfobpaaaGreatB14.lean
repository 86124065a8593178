/- All that touches is pushed, in rounds, by the specification. Two bodies are moved apart, by the specification: the function. All that is too deep is moved apart, by the specification, out of what one contact does. Whether bodies are ok: both sides. All contacts, by the specification. -/
import Derived.Test.YtkblddegfobpaaaGreatS8o
import Derived.Test.YtkblddegfobpaaaGreatB8
import Derived.Deep.RegionHeld3
import Derived.Deep.DeepCutAuto
import Derived.Test.YtkblddegfobpaaaGreatB5
import Derived.Test.YtkblddegfobpaaaGreatB3
import Derived.Test.YtkblddegfobpaaaGreatB2
import Derived.Test.YtkblddegfobpaaaGreatB9
namespace Go.Proofs.YtkblddegfobpaaaGreat
open Go.RowKit
set_option linter.unusedVariables false
set_option linter.unusedSimpArgs false
theorem pushV_0 (V : Nat → Int) (p q : Int) : pushV V p q 0 = V 0 := by unfold pushV; split <;> rfl
theorem pushV_8 (V : Nat → Int) (p q : Int) : pushV V p q 8 = V 8 := by unfold pushV; split <;> rfl
theorem Bods.one {n : Nat} {U : Nat → Int} (h : Bods n U) {A B : Nat} (hA : A < n) (hB : B < n) (hAB : A ≠ B) (X Y : Int) (bo : Bool) : Bods n (oneU U A B X Y bo) ∧ ∀ i, oneU U A B X Y bo (i * 12 + 8) = U (i * 12 + 8) := by
  unfold oneU
  generalize puX (fun j => U (A * 12 + j)) (fun j => U (B * 12 + j)) X Y bo = p
  generalize puY (fun j => U (A * 12 + j)) (fun j => U (B * 12 + j)) X Y bo = q
  generalize ((p == 0 && q == 0) || !fitsB (fun j => U (A * 12 + j)) (fun j => U (B * 12 + j)) p q) = z
  cases z with
  | true => exact ⟨h, fun i => rfl⟩
  | false =>
    simp only [cond_false]
    have hb0 : putRow U A (pushV (fun j => U (A * 12 + j)) (-p) (-q)) (B * 12) = U (B * 12) := by
      have := putRow_else (U := U) (V := pushV (fun j => U (A * 12 + j)) (-p) (-q)) (k := A) (i := B) (j := 0) (fun e => hAB e.symm) (by omega)
      simpa using this
    have h8 : ∀ i, putRow U A (pushV (fun j => U (A * 12 + j)) (-p) (-q)) (i * 12 + 8) = U (i * 12 + 8) := fun i => putRow_8 (by rw [pushV_8])
    exact ⟨(h.put hA (push_ok (-p) (-q) (h.row hA)) (by rw [pushV_0]; rfl)).put hB (push_ok p q (h.row hB)) (by rw [pushV_0, hb0]; rfl), fun i => (putRow_8 (by rw [pushV_8, h8])).trans (h8 i)⟩
def rndN (C : Nat → Int) (bo : Bool) (U : Nat → Int) : Nat → Nat → Int
  | 0 => U
  | k + 1 => oneU (rndN C bo U k) (C (k * 5)).toNat (C (k * 5 + 1)).toNat (C (k * 5 + 2)) (C (k * 5 + 3)) bo
def allN (C U : Nat → Int) (m : Nat) : Nat → Nat → Int
  | 0 => U
  | r + 1 => rndN C (((r : Nat) : Int) == 0) (allN C U m r) m
theorem Bods.rnd {n m : Nat} {U C : Nat → Int} (h : Bods n U) (hC : CtOk n m C) (bo : Bool) : ∀ k, k ≤ m → Bods n (rndN C bo U k) ∧ ∀ i, rndN C bo U k (i * 12 + 8) = U (i * 12 + 8)
  | 0, _ => ⟨h, fun i => rfl⟩
  | k + 1, hk => by
    obtain ⟨h1, h2⟩ := Bods.rnd h hC bo k (by omega)
    have ha := hC.a k (by omega)
    have hb := hC.b k (by omega)
    have hn := hC.ne k (by omega)
    obtain ⟨q1, q2⟩ := h1.one (A := (C (k * 5)).toNat) (B := (C (k * 5 + 1)).toNat) (by omega) (by omega) (by omega) (C (k * 5 + 2)) (C (k * 5 + 3)) bo
    exact ⟨q1, fun i => (q2 i).trans (h2 i)⟩
theorem Bods.all {n m : Nat} {U C : Nat → Int} (h : Bods n U) (hC : CtOk n m C) : ∀ r, Bods n (allN C U m r) ∧ ∀ i, allN C U m r (i * 12 + 8) = U (i * 12 + 8)
  | 0 => ⟨h, fun i => rfl⟩
  | r + 1 => by
    obtain ⟨h1, h2⟩ := Bods.all h hC r
    obtain ⟨q1, q2⟩ := h1.rnd hC (((r : Nat) : Int) == 0) m (Nat.le_refl _)
    exact ⟨q1, fun i => (q2 i).trans (h2 i)⟩
set_option maxRecDepth 20000 in
set_option maxHeartbeats 8000000 in
theorem l8All_any (a : Option Addr) (n c : Nat) (U : Nat → Int) (ac : Option Addr) (m cc : Nat) (C : Nat → Int) (w : World) (h : Flat w a (n * 12) U) (hn : n ≤ 1048576) (hm : m ≤ 1048576) (h2 : Flat w ac (m * 5) C) (hbb : Bods n U) (hC : CtOk n m C) :
    Calls Tryz.prog 84 #[.slice a n c, .slice ac m cc] w fun e w' => ∃ a1 c1, e = .returned (.slice a1 n c1) ∧ OutL w w' 38 12 a1 n c1 (allN C U m 4) := by
  have hset := cset_map
  go_enter Tryz.func84, Tryz.ntmps84
  go_upto_region 1 with fail
  go_cut [5] (fun s0 wc => ∃ a1 c1, s0 = .slice a1 n c1 ∧ OutL w wc 38 12 a1 n c1 U)
  case first =>
    go_wp2_with (go_at_call 108; refine (l8Copy_any a n c U _ h hn).mono ?_; rintro e w3 ⟨a1, c1, rfl, hO⟩)
    go_meet
    exact ⟨_, _, rfl, hO⟩
  case rest =>
  obtain ⟨a1, c1, rfl, hO⟩ := hcut
  go_upto_region 3 with fail
  go_loopw [6, 7] (fun s _ wr => ∃ r : Nat, r ≤ 4 ∧ s = .int .i64 (r : Int) ∧ OutL w wr 38 12 a1 n c1 (allN C U m r)) (fun s _ _ => 4 - (intOf s).toNat)
  case atStart => exact ⟨0, Nat.zero_le _, rfl, hO⟩
  case round =>
    clear hO
    obtain ⟨r, hr, rfl, hO⟩ := hrel
    by_cases hlr : r < 4
    · have hr4 : (r : Int) < 4 := by omega
      have hB0 := (hbb.all hC r).1
      have HAL : Shut (allN C U m (r + 1) = rndN C (((r : Nat) : Int) == 0) (allN C U m r) m) := by show _ = _; rw [allN]
      obtain ⟨bo, hbo⟩ : ∃ b, ((r : Int) == 0) = b := ⟨_, rfl⟩
      rw [hbo] at HAL
      generalize allN C U m r = X at hO hB0 HAL
      go_upto_region 6 with fail
      go_loopw [7] (fun s wq => ∃ k : Nat, k ≤ m ∧ s = .int .i64 (k : Int) ∧ OutL w wq 38 12 a1 n c1 (rndN C bo X k)) (fun s _ => m - (intOf s).toNat)
      case atStart => exact ⟨0, Nat.zero_le _, rfl, hO⟩
      case round =>
        clear hO
        obtain ⟨k, hk, rfl, hO⟩ := hrel
        by_cases hlt : k < m
        · have hkm : (k : Int) < (m : Int) := by omega
          have ca := hC.a k hlt
          have cb := hC.b k hlt
          have cx := hC.x k hlt
          have cy := hC.y k hlt
          have cn := hC.ne k hlt
          have hB := (hB0.rnd hC bo k hk).1
          obtain ⟨b2, o2, e2, hbl2, hc2⟩ := (h2.below hO.bel) (by omega)
          have r0 := hc2 (k * 5) (by omega)
          have r1 := hc2 (k * 5 + 1) (by omega)
          have r2 := hc2 (k * 5 + 2) (by omega)
          have r3 := hc2 (k * 5 + 3) (by omega)
          have r4 := hc2 (k * 5 + 4) (by omega)
          simp only [← Nat.add_assoc] at r0 r1 r2 r3 r4
          clear hc2
          subst e2
          have HN : Shut (rndN C bo X (k + 1) = oneU (rndN C bo X k) (C (k * 5)).toNat (C (k * 5 + 1)).toNat (C (k * 5 + 2)) (C (k * 5 + 3)) bo) := by show _ = _; rw [rndN]
          obtain ⟨A, hA⟩ : ∃ A : Nat, C (k * 5) = (A : Int) := ⟨(C (k * 5)).toNat, by omega⟩
          obtain ⟨B, hBB⟩ : ∃ B : Nat, C (k * 5 + 1) = (B : Int) := ⟨(C (k * 5 + 1)).toNat, by omega⟩
          rw [hA, hBB, Int.toNat_natCast, Int.toNat_natCast] at HN
          rw [hA] at ca r0 cn
          rw [hBB] at cb r1 cn
          clear hA hBB
          have hAB : A ≠ B := fun e => cn (by rw [e])
          clear cn
          obtain ⟨g, rfl, hg1, hg2⟩ := hO.own.loc (by omega)
          go_wp2_with (go_at_call 109; refine (l8One_any w.heap.size g n c1 (rndN C bo X k) A B _ _ _ bo _ hO.own hn (by omega) (by omega) hAB hB cx cy).mono ?_; rintro e w5 ⟨rfl, ho5, hf5⟩)
          have hB5 : Below w.heap.size w w5 := hO.bel.trans (hf5.below (by have := hO.bel.size; omega) (fun b e => by omega))
          go_roundw
          case rel => exact ⟨k + 1, by omega, by go_num, hB5, by rw [HN.out]; exact ho5⟩
          case measure => simp [intOf]; omega
        · obtain rfl : k = m := by omega
          go_wp2_with fail
          go_roundw
          case rel => exact ⟨r + 1, by omega, by go_num, by rw [HAL.out]; exact hO⟩
          case measure => simp [intOf]; omega
    · obtain rfl : r = 4 := by omega
      go_wp2_with fail
      go_ret
      exact ⟨_, _, rfl, hO⟩
end Go.Proofs.YtkblddegfobpaaaGreat
namespace Go.Proofs.YtkblddegfobpaaaGreat
open Go.RowKit
set_option linter.unusedVariables false
set_option linter.unusedSimpArgs false
set_option maxRecDepth 20000 in
set_option maxHeartbeats 8000000 in
theorem l8Apart_any (base g n c : Nat) (U : Nat → Int) (A B : Nat) (X Y D : Int) (w : World) (ho0 : OwnL w base 38 12 (.slice (some ⟨g, 0, none⟩) n c) n U) (hn : n ≤ 1048576) (hA : A < n) (hB : B < n) (hbb : Bods n U) (hX : -256 ≤ X ∧ X ≤ 256) (hY : -256 ≤ Y ∧ Y ≤ 256) (hD : 0 ≤ D ∧ D ≤ 102400) :
    Calls Tryz.prog 110 #[.slice (some ⟨g, 0, none⟩) n c, .agg #[.int .i64 (A : Int), .int .i64 (B : Int), .int .i64 X, .int .i64 Y, .int .i64 D]] w fun e w' => e = .returned (.tuple #[]) ∧ OwnL w' base 38 12 (.slice (some ⟨g, 0, none⟩) n c) n (apartU U A B X Y D) ∧ Fr (fun b => b = g) w w' := by
  have hset := cset_map
  have hgl : g < w.heap.size := (ho0.lt g rfl).2
  have hAi : (A : Int) < (n : Int) := by omega
  have hBi : (B : Int) < (n : Int) := by omega
  obtain ⟨mA, _, b4A, b5A, _, _, _⟩ := bodyB_bd (hbb.ok A hA)
  obtain ⟨mB, _, b4B, b5B, _, _, _⟩ := bodyB_bd (hbb.ok B hB)
  obtain ⟨nn, hnn⟩ : ∃ nn, (D - 64).tdiv 4 = nn := ⟨_, rfl⟩
  have hnb := tdiv_bd (x := D - 64) (B := 102400) 4 (by omega)
  have hnr := tdiv_le (x := D - 64) (B := 30000) (m := 4) (by omega) (by omega) (by omega)
  rw [hnn] at hnr
  have w1 : IntKind.i64.wrap (D - 64) = D - 64 := i64w (by omega)
  have w2 : IntKind.i64.wrap ((D - 64).tdiv 4) = nn := by rw [hnn]; exact i64w (by omega)
  have w3 : IntKind.i64.wrap nn = nn := i64w (by omega)
  have hE : Below w.heap.size w (w.alloc (Obj.cells #[.int .i64 (A : Int), .int .i64 (B : Int), .int .i64 X, .int .i64 Y, .int .i64 D] 40)) := (Below.refl _ _).alloc (Nat.le_refl _) _
  obtain ⟨R, hR⟩ : ∃ R, apartU U A B X Y D = R := ⟨_, rfl⟩
  rw [hR]
  unfold apartU at hR
  rw [hnn] at hR
  by_cases h0 : 0 < nn
  · rw [decide_eq_true h0] at hR
    simp only [cond_true] at hR
    have hsA := share_bd (V := (fun j => U (A * 12 + j))) (W := (fun j => U (B * 12 + j))) (n := nn) mA.1 mB.1 (by omega)
    have hsB := share_bd (V := (fun j => U (B * 12 + j))) (W := (fun j => U (A * 12 + j))) (n := nn) mB.1 mA.1 (by omega)
    obtain ⟨xA, hxA⟩ : ∃ x, shareV (fun j => U (A * 12 + j)) (fun j => U (B * 12 + j)) nn = x := ⟨_, rfl⟩
    obtain ⟨xB, hxB⟩ : ∃ x, shareV (fun j => U (B * 12 + j)) (fun j => U (A * 12 + j)) nn = x := ⟨_, rfl⟩
    rw [hxA] at hsA
    rw [hxB] at hsB
    rw [hxA, hxB] at hR
    have nX : IntKind.i64.wrap (-X) = -X := i64w (by omega)
    have nY : IntKind.i64.wrap (-Y) = -Y := i64w (by omega)
    have pAp := mul_bd (a := X) (b := xA) (A := 256) (B := 30000) (by omega) (by omega)
    obtain ⟨pAm, pAk⟩ : ∃ z, X * xA = z := ⟨_, rfl⟩
    rw [pAk] at pAp
    have pAn := tdiv_le (x := pAm) (B := 30000) (m := 256) (by omega) (by omega) (by omega)
    obtain ⟨pA, pAe⟩ : ∃ z, pAm.tdiv 256 = z := ⟨_, rfl⟩
    rw [pAe] at pAn
    have pAw : IntKind.i64.wrap pAm = pAm := i64w (by omega)
    have pAv : IntKind.i64.wrap pA = pA := i64w (by omega)
    have pAf : (-pAm).tdiv 256 = -pA := by rw [Int.neg_tdiv, pAe]
    have pAx : IntKind.i64.wrap (-pAm) = -pAm := i64w (by omega)
    have pAy : IntKind.i64.wrap (-pA) = -pA := i64w (by omega)
    have pAz : IntKind.i64.wrap (-X * xA) = -pAm := by rw [Int.neg_mul, pAk]; exact pAx
    rw [show (-X * xA).tdiv 256 = -pA by rw [Int.neg_mul, pAk, pAf]] at hR
    have qAp := mul_bd (a := Y) (b := xA) (A := 256) (B := 30000) (by omega) (by omega)
    obtain ⟨qAm, qAk⟩ : ∃ z, Y * xA = z := ⟨_, rfl⟩
    rw [qAk] at qAp
    have qAn := tdiv_le (x := qAm) (B := 30000) (m := 256) (by omega) (by omega) (by omega)
    obtain ⟨qA, qAe⟩ : ∃ z, qAm.tdiv 256 = z := ⟨_, rfl⟩
    rw [qAe] at qAn
    have qAw : IntKind.i64.wrap qAm = qAm := i64w (by omega)
    have qAv : IntKind.i64.wrap qA = qA := i64w (by omega)
    have qAf : (-qAm).tdiv 256 = -qA := by rw [Int.neg_tdiv, qAe]
    have qAx : IntKind.i64.wrap (-qAm) = -qAm := i64w (by omega)
    have qAy : IntKind.i64.wrap (-qA) = -qA := i64w (by omega)
    have qAz : IntKind.i64.wrap (-Y * xA) = -qAm := by rw [Int.neg_mul, qAk]; exact qAx
    rw [show (-Y * xA).tdiv 256 = -qA by rw [Int.neg_mul, qAk, qAf]] at hR
    have pBp := mul_bd (a := X) (b := xB) (A := 256) (B := 30000) (by omega) (by omega)
    obtain ⟨pBm, pBk⟩ : ∃ z, X * xB = z := ⟨_, rfl⟩
    rw [pBk] at pBp
    have pBn := tdiv_le (x := pBm) (B := 30000) (m := 256) (by omega) (by omega) (by omega)
    obtain ⟨pB, pBe⟩ : ∃ z, pBm.tdiv 256 = z := ⟨_, rfl⟩
    rw [pBe] at pBn
    have pBw : IntKind.i64.wrap pBm = pBm := i64w (by omega)
    have pBv : IntKind.i64.wrap pB = pB := i64w (by omega)
    rw [pBk, pBe] at hR
    have qBp := mul_bd (a := Y) (b := xB) (A := 256) (B := 30000) (by omega) (by omega)
    obtain ⟨qBm, qBk⟩ : ∃ z, Y * xB = z := ⟨_, rfl⟩
    rw [qBk] at qBp
    have qBn := tdiv_le (x := qBm) (B := 30000) (m := 256) (by omega) (by omega) (by omega)
    obtain ⟨qB, qBe⟩ : ∃ z, qBm.tdiv 256 = z := ⟨_, rfl⟩
    rw [qBe] at qBn
    have qBw : IntKind.i64.wrap qBm = qBm := i64w (by omega)
    have qBv : IntKind.i64.wrap qB = qB := i64w (by omega)
    rw [qBk, qBe] at hR
    have h1 : ¬ nn ≤ 0 := by omega
    obtain ⟨MA, hMA⟩ : ∃ b, decide (0 < U (A * 12 + 8)) = b := ⟨_, rfl⟩
    obtain ⟨MB, hMB⟩ : ∃ b, decide (0 < U (B * 12 + 8)) = b := ⟨_, rfl⟩
    rw [hMA, hMB] at hR
    have iA : ∀ j, j < 12 → A * 12 + j < n * 12 := fun j hj => by omega
    have iB : ∀ j, j < 12 → B * 12 + j < n * 12 := fun j hj => by omega
    have rpA : -20000000 ≤ -pA ∧ -pA ≤ 20000000 := by omega
    have rqA : -20000000 ≤ -qA ∧ -qA ≤ 20000000 := by omega
    have rpB : -20000000 ≤ pB ∧ pB ≤ 20000000 := by omega
    have rqB : -20000000 ≤ qB ∧ qB ≤ 20000000 := by omega
    clear pAn qAn pBn qBn pAp qAp pBp qBp hsA hsB hnb
    have a0 := ho0.cellq (q := A * 12) (iA 0 (by decide))
    have a1 := ho0.cellq (q := A * 12 + 1) (iA 1 (by decide))
    have a2 := ho0.cellq (q := A * 12 + 2) (iA 2 (by decide))
    have a3 := ho0.cellq (q := A * 12 + 3) (iA 3 (by decide))
    have a4 := ho0.cellq (q := A * 12 + 4) (iA 4 (by decide))
    have a5 := ho0.cellq (q := A * 12 + 5) (iA 5 (by decide))
    have a6 := ho0.cellq (q := A * 12 + 6) (iA 6 (by decide))
    have a7 := ho0.cellq (q := A * 12 + 7) (iA 7 (by decide))
    have a8 := ho0.cellq (q := A * 12 + 8) (iA 8 (by decide))
    have a9 := ho0.cellq (q := A * 12 + 9) (iA 9 (by decide))
    have a10 := ho0.cellq (q := A * 12 + 10) (iA 10 (by decide))
    have a11 := ho0.cellq (q := A * 12 + 11) (iA 11 (by decide))
    have b0 := ho0.cellq (q := B * 12) (iB 0 (by decide))
    have b1 := ho0.cellq (q := B * 12 + 1) (iB 1 (by decide))
    have b2 := ho0.cellq (q := B * 12 + 2) (iB 2 (by decide))
    have b3 := ho0.cellq (q := B * 12 + 3) (iB 3 (by decide))
    have b4 := ho0.cellq (q := B * 12 + 4) (iB 4 (by decide))
    have b5 := ho0.cellq (q := B * 12 + 5) (iB 5 (by decide))
    have b6 := ho0.cellq (q := B * 12 + 6) (iB 6 (by decide))
    have b7 := ho0.cellq (q := B * 12 + 7) (iB 7 (by decide))
    have b8 := ho0.cellq (q := B * 12 + 8) (iB 8 (by decide))
    have b9 := ho0.cellq (q := B * 12 + 9) (iB 9 (by decide))
    have b10 := ho0.cellq (q := B * 12 + 10) (iB 10 (by decide))
    have b11 := ho0.cellq (q := B * 12 + 11) (iB 11 (by decide))
    go_enter Tryz.func110, Tryz.ntmps110
    go_upto_region 5 with fail
    have hE2 : Below (w.alloc (Obj.cells #[.int .i64 (A : Int), .int .i64 (B : Int), .int .i64 X, .int .i64 Y, .int .i64 D] 40)).heap.size (w.alloc (Obj.cells #[.int .i64 (A : Int), .int .i64 (B : Int), .int .i64 X, .int .i64 Y, .int .i64 D] 40)) ((w.alloc (Obj.cells #[.int .i64 (A : Int), .int .i64 (B : Int), .int .i64 X, .int .i64 Y, .int .i64 D] 40)).alloc (Obj.cells #[.int .i64 (U (A * 12)), .int .i64 (U (A * 12 + 1)), .int .i64 (U (A * 12 + 2)), .int .i64 (U (A * 12 + 3)), .int .i64 (U (A * 12 + 4)), .int .i64 (U (A * 12 + 5)), .int .i64 (U (A * 12 + 6)), .int .i64 (U (A * 12 + 7)), .int .i64 (U (A * 12 + 8)), .int .i64 (U (A * 12 + 9)), .int .i64 (U (A * 12 + 10)), .int .i64 (U (A * 12 + 11))] 38)) := (Below.refl _ _).alloc (Nat.le_refl _) _
    have hE3 : Below ((w.alloc (Obj.cells #[.int .i64 (A : Int), .int .i64 (B : Int), .int .i64 X, .int .i64 Y, .int .i64 D] 40)).alloc (Obj.cells #[.int .i64 (U (A * 12)), .int .i64 (U (A * 12 + 1)), .int .i64 (U (A * 12 + 2)), .int .i64 (U (A * 12 + 3)), .int .i64 (U (A * 12 + 4)), .int .i64 (U (A * 12 + 5)), .int .i64 (U (A * 12 + 6)), .int .i64 (U (A * 12 + 7)), .int .i64 (U (A * 12 + 8)), .int .i64 (U (A * 12 + 9)), .int .i64 (U (A * 12 + 10)), .int .i64 (U (A * 12 + 11))] 38)).heap.size ((w.alloc (Obj.cells #[.int .i64 (A : Int), .int .i64 (B : Int), .int .i64 X, .int .i64 Y, .int .i64 D] 40)).alloc (Obj.cells #[.int .i64 (U (A * 12)), .int .i64 (U (A * 12 + 1)), .int .i64 (U (A * 12 + 2)), .int .i64 (U (A * 12 + 3)), .int .i64 (U (A * 12 + 4)), .int .i64 (U (A * 12 + 5)), .int .i64 (U (A * 12 + 6)), .int .i64 (U (A * 12 + 7)), .int .i64 (U (A * 12 + 8)), .int .i64 (U (A * 12 + 9)), .int .i64 (U (A * 12 + 10)), .int .i64 (U (A * 12 + 11))] 38)) (((w.alloc (Obj.cells #[.int .i64 (A : Int), .int .i64 (B : Int), .int .i64 X, .int .i64 Y, .int .i64 D] 40)).alloc (Obj.cells #[.int .i64 (U (A * 12)), .int .i64 (U (A * 12 + 1)), .int .i64 (U (A * 12 + 2)), .int .i64 (U (A * 12 + 3)), .int .i64 (U (A * 12 + 4)), .int .i64 (U (A * 12 + 5)), .int .i64 (U (A * 12 + 6)), .int .i64 (U (A * 12 + 7)), .int .i64 (U (A * 12 + 8)), .int .i64 (U (A * 12 + 9)), .int .i64 (U (A * 12 + 10)), .int .i64 (U (A * 12 + 11))] 38)).alloc (Obj.cells #[.int .i64 (U (B * 12)), .int .i64 (U (B * 12 + 1)), .int .i64 (U (B * 12 + 2)), .int .i64 (U (B * 12 + 3)), .int .i64 (U (B * 12 + 4)), .int .i64 (U (B * 12 + 5)), .int .i64 (U (B * 12 + 6)), .int .i64 (U (B * 12 + 7)), .int .i64 (U (B * 12 + 8)), .int .i64 (U (B * 12 + 9)), .int .i64 (U (B * 12 + 10)), .int .i64 (U (B * 12 + 11))] 38)) := (Below.refl _ _).alloc (Nat.le_refl _) _
    have hET : Below w.heap.size w (((w.alloc (Obj.cells #[.int .i64 (A : Int), .int .i64 (B : Int), .int .i64 X, .int .i64 Y, .int .i64 D] 40)).alloc (Obj.cells #[.int .i64 (U (A * 12)), .int .i64 (U (A * 12 + 1)), .int .i64 (U (A * 12 + 2)), .int .i64 (U (A * 12 + 3)), .int .i64 (U (A * 12 + 4)), .int .i64 (U (A * 12 + 5)), .int .i64 (U (A * 12 + 6)), .int .i64 (U (A * 12 + 7)), .int .i64 (U (A * 12 + 8)), .int .i64 (U (A * 12 + 9)), .int .i64 (U (A * 12 + 10)), .int .i64 (U (A * 12 + 11))] 38)).alloc (Obj.cells #[.int .i64 (U (B * 12)), .int .i64 (U (B * 12 + 1)), .int .i64 (U (B * 12 + 2)), .int .i64 (U (B * 12 + 3)), .int .i64 (U (B * 12 + 4)), .int .i64 (U (B * 12 + 5)), .int .i64 (U (B * 12 + 6)), .int .i64 (U (B * 12 + 7)), .int .i64 (U (B * 12 + 8)), .int .i64 (U (B * 12 + 9)), .int .i64 (U (B * 12 + 10)), .int .i64 (U (B * 12 + 11))] 38)) := hE.trans ((hE2.trans (hE3.mono hE2.size)).mono hE.size)
    have hP : Ap8 w (((w.alloc (Obj.cells #[.int .i64 (A : Int), .int .i64 (B : Int), .int .i64 X, .int .i64 Y, .int .i64 D] 40)).alloc (Obj.cells #[.int .i64 (U (A * 12)), .int .i64 (U (A * 12 + 1)), .int .i64 (U (A * 12 + 2)), .int .i64 (U (A * 12 + 3)), .int .i64 (U (A * 12 + 4)), .int .i64 (U (A * 12 + 5)), .int .i64 (U (A * 12 + 6)), .int .i64 (U (A * 12 + 7)), .int .i64 (U (A * 12 + 8)), .int .i64 (U (A * 12 + 9)), .int .i64 (U (A * 12 + 10)), .int .i64 (U (A * 12 + 11))] 38)).alloc (Obj.cells #[.int .i64 (U (B * 12)), .int .i64 (U (B * 12 + 1)), .int .i64 (U (B * 12 + 2)), .int .i64 (U (B * 12 + 3)), .int .i64 (U (B * 12 + 4)), .int .i64 (U (B * 12 + 5)), .int .i64 (U (B * 12 + 6)), .int .i64 (U (B * 12 + 7)), .int .i64 (U (B * 12 + 8)), .int .i64 (U (B * 12 + 9)), .int .i64 (U (B * 12 + 10)), .int .i64 (U (B * 12 + 11))] 38)) A B X Y D (w.heap.size + 1) (w.heap.size + 1 + 1) (fun j => U (A * 12 + j)) (fun j => U (B * 12 + j)) :=
      ⟨by go_simp, by go_simp, by go_simp, by go_simp, by go_simp, fun j hj => by rcases (show j = 0 ∨ j = 1 ∨ j = 2 ∨ j = 3 ∨ j = 4 ∨ j = 5 ∨ j = 6 ∨ j = 7 ∨ j = 8 ∨ j = 9 ∨ j = 10 ∨ j = 11 by omega) with rfl | rfl | rfl | rfl | rfl | rfl | rfl | rfl | rfl | rfl | rfl | rfl <;> go_simp, fun j hj => by rcases (show j = 0 ∨ j = 1 ∨ j = 2 ∨ j = 3 ∨ j = 4 ∨ j = 5 ∨ j = 6 ∨ j = 7 ∨ j = 8 ∨ j = 9 ∨ j = 10 ∨ j = 11 by omega) with rfl | rfl | rfl | rfl | rfl | rfl | rfl | rfl | rfl | rfl | rfl | rfl <;> go_simp, by first | (simp; done) | (simp; omega), by first | (simp; done) | (simp; omega), by first | (simp; done) | (simp; omega), by omega, by omega⟩
    have ho := ho0.below hET
    have hF : Fr (fun b => b = g) w (((w.alloc (Obj.cells #[.int .i64 (A : Int), .int .i64 (B : Int), .int .i64 X, .int .i64 Y, .int .i64 D] 40)).alloc (Obj.cells #[.int .i64 (U (A * 12)), .int .i64 (U (A * 12 + 1)), .int .i64 (U (A * 12 + 2)), .int .i64 (U (A * 12 + 3)), .int .i64 (U (A * 12 + 4)), .int .i64 (U (A * 12 + 5)), .int .i64 (U (A * 12 + 6)), .int .i64 (U (A * 12 + 7)), .int .i64 (U (A * 12 + 8)), .int .i64 (U (A * 12 + 9)), .int .i64 (U (A * 12 + 10)), .int .i64 (U (A * 12 + 11))] 38)).alloc (Obj.cells #[.int .i64 (U (B * 12)), .int .i64 (U (B * 12 + 1)), .int .i64 (U (B * 12 + 2)), .int .i64 (U (B * 12 + 3)), .int .i64 (U (B * 12 + 4)), .int .i64 (U (B * 12 + 5)), .int .i64 (U (B * 12 + 6)), .int .i64 (U (B * 12 + 7)), .int .i64 (U (B * 12 + 8)), .int .i64 (U (B * 12 + 9)), .int .i64 (U (B * 12 + 10)), .int .i64 (U (B * 12 + 11))] 38)) := Fr.of_below hET
    generalize (((w.alloc (Obj.cells #[.int .i64 (A : Int), .int .i64 (B : Int), .int .i64 X, .int .i64 Y, .int .i64 D] 40)).alloc (Obj.cells #[.int .i64 (U (A * 12)), .int .i64 (U (A * 12 + 1)), .int .i64 (U (A * 12 + 2)), .int .i64 (U (A * 12 + 3)), .int .i64 (U (A * 12 + 4)), .int .i64 (U (A * 12 + 5)), .int .i64 (U (A * 12 + 6)), .int .i64 (U (A * 12 + 7)), .int .i64 (U (A * 12 + 8)), .int .i64 (U (A * 12 + 9)), .int .i64 (U (A * 12 + 10)), .int .i64 (U (A * 12 + 11))] 38)).alloc (Obj.cells #[.int .i64 (U (B * 12)), .int .i64 (U (B * 12 + 1)), .int .i64 (U (B * 12 + 2)), .int .i64 (U (B * 12 + 3)), .int .i64 (U (B * 12 + 4)), .int .i64 (U (B * 12 + 5)), .int .i64 (U (B * 12 + 6)), .int .i64 (U (B * 12 + 7)), .int .i64 (U (B * 12 + 8)), .int .i64 (U (B * 12 + 9)), .int .i64 (U (B * 12 + 10)), .int .i64 (U (B * 12 + 11))] 38)) = wx at hET hP ho hF ⊢
    clear hE hE2 hE3 a0 b0 a1 b1 a2 b2 a3 b3 a4 b4 a5 b5 a6 b6 a7 b7 a8 b8 a9 b9 a10 b10 a11 b11 hET
    generalize w.heap.size + 1 + 1 = bb at hP ⊢
    generalize w.heap.size + 1 = ba at hP ⊢
    have hMA : decide (0 < (fun j => U (A * 12 + j)) 8) = MA := hMA
    have mA : 0 ≤ (fun j => U (A * 12 + j)) 8 ∧ (fun j => U (A * 12 + j)) 8 ≤ 1000 := mA
    have mB : 0 ≤ (fun j => U (B * 12 + j)) 8 ∧ (fun j => U (B * 12 + j)) 8 ≤ 1000 := mB
    have b4A : -2560000 ≤ (fun j => U (A * 12 + j)) 4 ∧ (fun j => U (A * 12 + j)) 4 ≤ 2560000 := b4A
    have b5A : -2560000 ≤ (fun j => U (A * 12 + j)) 5 ∧ (fun j => U (A * 12 + j)) 5 ≤ 2560000 := b5A
    have b4B : -2560000 ≤ (fun j => U (B * 12 + j)) 4 ∧ (fun j => U (B * 12 + j)) 4 ≤ 2560000 := b4B
    have b5B : -2560000 ≤ (fun j => U (B * 12 + j)) 5 ∧ (fun j => U (B * 12 + j)) 5 ≤ 2560000 := b5B
    have hMB : decide (0 < (fun j => U (B * 12 + j)) 8) = MB := hMB
    generalize (fun j => U (A * 12 + j)) = VA at hP hR hMA mA b4A b5A hxA hxB ⊢
    generalize (fun j => U (B * 12 + j)) = VB at hP hR hMB mB b4B b5B hxA hxB ⊢
    have wk := fun (wc : World) (k : Ap8 w wc A B X Y D ba bb VA VB) => k.k4
    have k0 := hP.k0
    have k1 := hP.k1
    have k2 := hP.k2
    have k3 := hP.k3
    have k4 := hP.k4
    have y0 : wx.cell? ⟨ba, 0, none⟩ = some (.int .i64 (VA 0)) := hP.ca 0 (by decide)
    have z0 : wx.cell? ⟨bb, 0, none⟩ = some (.int .i64 (VB 0)) := hP.cb 0 (by decide)
    have y1 : wx.cell? ⟨ba, 1, none⟩ = some (.int .i64 (VA 1)) := hP.ca 1 (by decide)
    have z1 : wx.cell? ⟨bb, 1, none⟩ = some (.int .i64 (VB 1)) := hP.cb 1 (by decide)
    have y2 : wx.cell? ⟨ba, 2, none⟩ = some (.int .i64 (VA 2)) := hP.ca 2 (by decide)
    have z2 : wx.cell? ⟨bb, 2, none⟩ = some (.int .i64 (VB 2)) := hP.cb 2 (by decide)
    have y3 : wx.cell? ⟨ba, 3, none⟩ = some (.int .i64 (VA 3)) := hP.ca 3 (by decide)
    have z3 : wx.cell? ⟨bb, 3, none⟩ = some (.int .i64 (VB 3)) := hP.cb 3 (by decide)
    have y4 : wx.cell? ⟨ba, 4, none⟩ = some (.int .i64 (VA 4)) := hP.ca 4 (by decide)
    have z4 : wx.cell? ⟨bb, 4, none⟩ = some (.int .i64 (VB 4)) := hP.cb 4 (by decide)
    have y5 : wx.cell? ⟨ba, 5, none⟩ = some (.int .i64 (VA 5)) := hP.ca 5 (by decide)
    have z5 : wx.cell? ⟨bb, 5, none⟩ = some (.int .i64 (VB 5)) := hP.cb 5 (by decide)
    have y6 : wx.cell? ⟨ba, 6, none⟩ = some (.int .i64 (VA 6)) := hP.ca 6 (by decide)
    have z6 : wx.cell? ⟨bb, 6, none⟩ = some (.int .i64 (VB 6)) := hP.cb 6 (by decide)
    have y7 : wx.cell? ⟨ba, 7, none⟩ = some (.int .i64 (VA 7)) := hP.ca 7 (by decide)
    have z7 : wx.cell? ⟨bb, 7, none⟩ = some (.int .i64 (VB 7)) := hP.cb 7 (by decide)
    have y8 : wx.cell? ⟨ba, 8, none⟩ = some (.int .i64 (VA 8)) := hP.ca 8 (by decide)
    have z8 : wx.cell? ⟨bb, 8, none⟩ = some (.int .i64 (VB 8)) := hP.cb 8 (by decide)
    have y9 : wx.cell? ⟨ba, 9, none⟩ = some (.int .i64 (VA 9)) := hP.ca 9 (by decide)
    have z9 : wx.cell? ⟨bb, 9, none⟩ = some (.int .i64 (VB 9)) := hP.cb 9 (by decide)
    have y10 : wx.cell? ⟨ba, 10, none⟩ = some (.int .i64 (VA 10)) := hP.ca 10 (by decide)
    have z10 : wx.cell? ⟨bb, 10, none⟩ = some (.int .i64 (VB 10)) := hP.cb 10 (by decide)
    have y11 : wx.cell? ⟨ba, 11, none⟩ = some (.int .i64 (VA 11)) := hP.ca 11 (by decide)
    have z11 : wx.cell? ⟨bb, 11, none⟩ = some (.int .i64 (VB 11)) := hP.cb 11 (by decide)
    go_cut [7] (fun s7 wc => s7 = .int .i64 xA ∧ Ap8 w wc A B X Y D ba bb VA VB ∧ OwnL wc base 38 12 (.slice (some ⟨g, 0, none⟩) n c) n U ∧ Fr (fun b => b = g) w wc)
    case first =>
      go_wp2_with (go_at_call 122; refine (l8Share_q VA VB nn xA _ mA mB hnr hxA).mono ?_; rintro e w5 ⟨rfl, hb5⟩)
      go_meet
      exact ⟨rfl, hP.on hb5, ho.below hb5, hF.trans (Fr.of_below hb5)⟩
    case rest =>
    clear y0 z0 y1 z1 y2 z2 y3 z3 y4 z4 y5 z5 y6 z6 y7 z7 y8 z8 y9 z9 y10 z10 y11 z11 k0 k1 k2 k3 k4 hP ho hF
    obtain ⟨rfl, hP, ho, hF⟩ := hcut
    have y0 : wc.cell? ⟨ba, 0, none⟩ = some (.int .i64 (VA 0)) := hP.ca 0 (by decide)
    have z0 : wc.cell? ⟨bb, 0, none⟩ = some (.int .i64 (VB 0)) := hP.cb 0 (by decide)
    have y1 : wc.cell? ⟨ba, 1, none⟩ = some (.int .i64 (VA 1)) := hP.ca 1 (by decide)
    have z1 : wc.cell? ⟨bb, 1, none⟩ = some (.int .i64 (VB 1)) := hP.cb 1 (by decide)
    have y2 : wc.cell? ⟨ba, 2, none⟩ = some (.int .i64 (VA 2)) := hP.ca 2 (by decide)
    have z2 : wc.cell? ⟨bb, 2, none⟩ = some (.int .i64 (VB 2)) := hP.cb 2 (by decide)
    have y3 : wc.cell? ⟨ba, 3, none⟩ = some (.int .i64 (VA 3)) := hP.ca 3 (by decide)
    have z3 : wc.cell? ⟨bb, 3, none⟩ = some (.int .i64 (VB 3)) := hP.cb 3 (by decide)
    have y4 : wc.cell? ⟨ba, 4, none⟩ = some (.int .i64 (VA 4)) := hP.ca 4 (by decide)
    have z4 : wc.cell? ⟨bb, 4, none⟩ = some (.int .i64 (VB 4)) := hP.cb 4 (by decide)
    have y5 : wc.cell? ⟨ba, 5, none⟩ = some (.int .i64 (VA 5)) := hP.ca 5 (by decide)
    have z5 : wc.cell? ⟨bb, 5, none⟩ = some (.int .i64 (VB 5)) := hP.cb 5 (by decide)
    have y6 : wc.cell? ⟨ba, 6, none⟩ = some (.int .i64 (VA 6)) := hP.ca 6 (by decide)
    have z6 : wc.cell? ⟨bb, 6, none⟩ = some (.int .i64 (VB 6)) := hP.cb 6 (by decide)
    have y7 : wc.cell? ⟨ba, 7, none⟩ = some (.int .i64 (VA 7)) := hP.ca 7 (by decide)
    have z7 : wc.cell? ⟨bb, 7, none⟩ = some (.int .i64 (VB 7)) := hP.cb 7 (by decide)
    have y8 : wc.cell? ⟨ba, 8, none⟩ = some (.int .i64 (VA 8)) := hP.ca 8 (by decide)
    have z8 : wc.cell? ⟨bb, 8, none⟩ = some (.int .i64 (VB 8)) := hP.cb 8 (by decide)
    have y9 : wc.cell? ⟨ba, 9, none⟩ = some (.int .i64 (VA 9)) := hP.ca 9 (by decide)
    have z9 : wc.cell? ⟨bb, 9, none⟩ = some (.int .i64 (VB 9)) := hP.cb 9 (by decide)
    have y10 : wc.cell? ⟨ba, 10, none⟩ = some (.int .i64 (VA 10)) := hP.ca 10 (by decide)
    have z10 : wc.cell? ⟨bb, 10, none⟩ = some (.int .i64 (VB 10)) := hP.cb 10 (by decide)
    have y11 : wc.cell? ⟨ba, 11, none⟩ = some (.int .i64 (VA 11)) := hP.ca 11 (by decide)
    have z11 : wc.cell? ⟨bb, 11, none⟩ = some (.int .i64 (VB 11)) := hP.cb 11 (by decide)
    go_upto_region 6 with fail
    go_cut [8] (fun s8 wc => s8 = .int .i64 xB ∧ Ap8 w wc A B X Y D ba bb VA VB ∧ OwnL wc base 38 12 (.slice (some ⟨g, 0, none⟩) n c) n U ∧ Fr (fun b => b = g) w wc)
    case first =>
      go_wp2_with (go_at_call 122; refine (l8Share_q VB VA nn xB _ mB mA hnr hxB).mono ?_; rintro e w5 ⟨rfl, hb5⟩)
      go_meet
      exact ⟨rfl, hP.on hb5, ho.below hb5, hF.trans (Fr.of_below hb5)⟩
    case rest =>
    clear y0 z0 y1 z1 y2 z2 y3 z3 y4 z4 y5 z5 y6 z6 y7 z7 y8 z8 y9 z9 y10 z10 y11 z11 hP ho hF wk
    obtain ⟨rfl, hP, ho, hF⟩ := hcut
    obtain ⟨U1, hUA⟩ : ∃ U1, (bif MA then putRow U A (moveV VA (-pA) (-qA)) else U) = U1 := ⟨_, rfl⟩
    rw [hUA] at hR
    rename_i hKK
    refine hKK _ _ ?_
    refine wp_seq_k (fun K8 hK8 => ?_)
    go_cut [] (fun wc => Ap8 w wc A B X Y D ba bb VA VB ∧ OwnL wc base 38 12 (.slice (some ⟨g, 0, none⟩) n c) n U1 ∧ Fr (fun b => b = g) w wc)
    case first =>
      have k0 := hP.k0
      have k1 := hP.k1
      have k2 := hP.k2
      have k3 := hP.k3
      have k4 := hP.k4
      have x0 : wc.cell? ⟨ba, 0, none⟩ = some (.int .i64 (VA 0)) := hP.ca 0 (by decide)
      have x1 : wc.cell? ⟨ba, 1, none⟩ = some (.int .i64 (VA 1)) := hP.ca 1 (by decide)
      have x2 : wc.cell? ⟨ba, 2, none⟩ = some (.int .i64 (VA 2)) := hP.ca 2 (by decide)
      have x3 : wc.cell? ⟨ba, 3, none⟩ = some (.int .i64 (VA 3)) := hP.ca 3 (by decide)
      have x4 : wc.cell? ⟨ba, 4, none⟩ = some (.int .i64 (VA 4)) := hP.ca 4 (by decide)
      have x5 : wc.cell? ⟨ba, 5, none⟩ = some (.int .i64 (VA 5)) := hP.ca 5 (by decide)
      have x6 : wc.cell? ⟨ba, 6, none⟩ = some (.int .i64 (VA 6)) := hP.ca 6 (by decide)
      have x7 : wc.cell? ⟨ba, 7, none⟩ = some (.int .i64 (VA 7)) := hP.ca 7 (by decide)
      have x8 : wc.cell? ⟨ba, 8, none⟩ = some (.int .i64 (VA 8)) := hP.ca 8 (by decide)
      have x9 : wc.cell? ⟨ba, 9, none⟩ = some (.int .i64 (VA 9)) := hP.ca 9 (by decide)
      have x10 : wc.cell? ⟨ba, 10, none⟩ = some (.int .i64 (VA 10)) := hP.ca 10 (by decide)
      have x11 : wc.cell? ⟨ba, 11, none⟩ = some (.int .i64 (VA 11)) := hP.ca 11 (by decide)
      cases MA with
      | true =>
        simp only [cond_true] at hUA
        have gg := of_decide_eq_true hMA
        obtain ⟨M, hM⟩ : ∃ M, moveV VA (-pA) (-qA) = M := ⟨_, rfl⟩
        rw [hM] at hUA
        subst hUA
        go_upto_region 8 with fail
        refine wp_region_held_drew (S := fun w' => w'.cell? ⟨w.heap.size, 0, none⟩ = some (.int .i64 (A : Int)) ∧ w'.cell? ⟨w.heap.size, 1, none⟩ = some (.int .i64 (B : Int)) ∧ w'.cell? ⟨w.heap.size, 2, none⟩ = some (.int .i64 X) ∧ w'.cell? ⟨w.heap.size, 3, none⟩ = some (.int .i64 Y) ∧ w'.cell? ⟨w.heap.size, 4, none⟩ = some (.int .i64 D) ∧ w'.cell? ⟨ba, 0, none⟩ = some (.int .i64 (VA 0)) ∧ w'.cell? ⟨ba, 1, none⟩ = some (.int .i64 (VA 1)) ∧ w'.cell? ⟨ba, 2, none⟩ = some (.int .i64 (VA 2)) ∧ w'.cell? ⟨ba, 3, none⟩ = some (.int .i64 (VA 3)) ∧ w'.cell? ⟨ba, 4, none⟩ = some (.int .i64 (VA 4)) ∧ w'.cell? ⟨ba, 5, none⟩ = some (.int .i64 (VA 5)) ∧ w'.cell? ⟨ba, 6, none⟩ = some (.int .i64 (VA 6)) ∧ w'.cell? ⟨ba, 7, none⟩ = some (.int .i64 (VA 7)) ∧ w'.cell? ⟨ba, 8, none⟩ = some (.int .i64 (VA 8)) ∧ w'.cell? ⟨ba, 9, none⟩ = some (.int .i64 (VA 9)) ∧ w'.cell? ⟨ba, 10, none⟩ = some (.int .i64 (VA 10)) ∧ w'.cell? ⟨ba, 11, none⟩ = some (.int .i64 (VA 11))) (by kernel_rfl) ?_ (fun hHeld => ?_)
        · (try dsimp only)
          (first | (go_simp; done) | (go_keep; done))
        refine tq 0 hHeld ?_
        refine tq 1 hHeld ?_
        refine tq 2 hHeld ?_
        refine tq 3 hHeld ?_
        refine tq 4 hHeld ?_
        refine tq 5 hHeld ?_
        refine tq 6 hHeld ?_
        refine tq 7 hHeld ?_
        refine tq 8 hHeld ?_
        refine tq 9 hHeld ?_
        refine tq 10 hHeld ?_
        refine tq 11 hHeld ?_
        refine tq 12 hHeld ?_
        refine tq 13 hHeld ?_
        refine tq 14 hHeld ?_
        refine tq 15 hHeld ?_
        refine tq 16 hHeld ?_
        refine tq 17 hHeld ?_
        refine tq 18 hHeld ?_
        refine tq 19 hHeld ?_
        refine tq 20 hHeld ?_
        refine tc 21 fun K hK => ?_
        (go_simp; (go_at_call 111; refine (l6Move_any VA (-pA) (-qA) _ b4A b5A rpA rqA).mono ?_; rintro e wm ⟨rfl, hbm⟩; (try rw [hM]); have hPm := hP.on hbm.ofDr; have hom := ho.below hbm.ofDr; have hFm := hF.trans (Fr.of_below hbm.ofDr); clear k0 k1 k2 k3 k4 x0 x1 x2 x3 x4 x5 x6 x7 x8 x9 x10 x11 hP ho hF hbm; have k0 := hPm.k0; have k1 := hPm.k1; have k2 := hPm.k2; have k3 := hPm.k3; have k4 := hPm.k4; (have x0 : wm.cell? ⟨ba, 0, none⟩ = some (.int .i64 (VA 0)) := hPm.ca 0 (by decide)); (have x1 : wm.cell? ⟨ba, 1, none⟩ = some (.int .i64 (VA 1)) := hPm.ca 1 (by decide)); (have x2 : wm.cell? ⟨ba, 2, none⟩ = some (.int .i64 (VA 2)) := hPm.ca 2 (by decide)); (have x3 : wm.cell? ⟨ba, 3, none⟩ = some (.int .i64 (VA 3)) := hPm.ca 3 (by decide)); (have x4 : wm.cell? ⟨ba, 4, none⟩ = some (.int .i64 (VA 4)) := hPm.ca 4 (by decide)); (have x5 : wm.cell? ⟨ba, 5, none⟩ = some (.int .i64 (VA 5)) := hPm.ca 5 (by decide)); (have x6 : wm.cell? ⟨ba, 6, none⟩ = some (.int .i64 (VA 6)) := hPm.ca 6 (by decide)); (have x7 : wm.cell? ⟨ba, 7, none⟩ = some (.int .i64 (VA 7)) := hPm.ca 7 (by decide)); (have x8 : wm.cell? ⟨ba, 8, none⟩ = some (.int .i64 (VA 8)) := hPm.ca 8 (by decide)); (have x9 : wm.cell? ⟨ba, 9, none⟩ = some (.int .i64 (VA 9)) := hPm.ca 9 (by decide)); (have x10 : wm.cell? ⟨ba, 10, none⟩ = some (.int .i64 (VA 10)) := hPm.ca 10 (by decide)); (have x11 : wm.cell? ⟨ba, 11, none⟩ = some (.int .i64 (VA 11)) := hPm.ca 11 (by decide)); have umf := hom.fro; (have um0 := hom.cellq (q := A * 12) (iA 0 (by decide))); (have um1 := hom.cellq (q := A * 12 + 1) (iA 1 (by decide))); (have um2 := hom.cellq (q := A * 12 + 2) (iA 2 (by decide))); (have um3 := hom.cellq (q := A * 12 + 3) (iA 3 (by decide))); (have um4 := hom.cellq (q := A * 12 + 4) (iA 4 (by decide))); (have um5 := hom.cellq (q := A * 12 + 5) (iA 5 (by decide))); (have um6 := hom.cellq (q := A * 12 + 6) (iA 6 (by decide))); (have um7 := hom.cellq (q := A * 12 + 7) (iA 7 (by decide))); (have um8 := hom.cellq (q := A * 12 + 8) (iA 8 (by decide))); (have um9 := hom.cellq (q := A * 12 + 9) (iA 9 (by decide))); (have um10 := hom.cellq (q := A * 12 + 10) (iA 10 (by decide))); (have um11 := hom.cellq (q := A * 12 + 11) (iA 11 (by decide)))); (try go_wp2_with fail); refine tr hK (fun hHeld => ?_); clear hK K)
        refine tq 22 hHeld ?_
        refine tc 23 fun K hK => ?_
        (go_simp
         have hq := put12 hom hA M
         have hfq := putFr (w4 := wm) (g := g) (p := A) M
         have hP2 := hPm.fr hfq hgl
         have hF2 := hFm.trans hfq
         clear k0 k1 k2 k3 k4 x0 x1 x2 x3 x4 x5 x6 x7 x8 x9 x10 x11 hPm hom hFm hfq umf um0 um1 um2 um3 um4 um5 um6 um7 um8 um9 um10 um11
         generalize ((((((((((((wm.setCell ⟨g, A * 12, none⟩ (.int .i64 (M 0))).setCell ⟨g, A * 12 + 1, none⟩ (.int .i64 (M 1))).setCell ⟨g, A * 12 + 2, none⟩ (.int .i64 (M 2))).setCell ⟨g, A * 12 + 3, none⟩ (.int .i64 (M 3))).setCell ⟨g, A * 12 + 4, none⟩ (.int .i64 (M 4))).setCell ⟨g, A * 12 + 5, none⟩ (.int .i64 (M 5))).setCell ⟨g, A * 12 + 6, none⟩ (.int .i64 (M 6))).setCell ⟨g, A * 12 + 7, none⟩ (.int .i64 (M 7))).setCell ⟨g, A * 12 + 8, none⟩ (.int .i64 (M 8))).setCell ⟨g, A * 12 + 9, none⟩ (.int .i64 (M 9))).setCell ⟨g, A * 12 + 10, none⟩ (.int .i64 (M 10))).setCell ⟨g, A * 12 + 11, none⟩ (.int .i64 (M 11))) = wy at hq hP2 hF2 ⊢
         have k0 := hP2.k0; have k1 := hP2.k1; have k2 := hP2.k2; have k3 := hP2.k3; have k4 := hP2.k4; (have x0 : wy.cell? ⟨ba, 0, none⟩ = some (.int .i64 (VA 0)) := hP2.ca 0 (by decide)); (have x1 : wy.cell? ⟨ba, 1, none⟩ = some (.int .i64 (VA 1)) := hP2.ca 1 (by decide)); (have x2 : wy.cell? ⟨ba, 2, none⟩ = some (.int .i64 (VA 2)) := hP2.ca 2 (by decide)); (have x3 : wy.cell? ⟨ba, 3, none⟩ = some (.int .i64 (VA 3)) := hP2.ca 3 (by decide)); (have x4 : wy.cell? ⟨ba, 4, none⟩ = some (.int .i64 (VA 4)) := hP2.ca 4 (by decide)); (have x5 : wy.cell? ⟨ba, 5, none⟩ = some (.int .i64 (VA 5)) := hP2.ca 5 (by decide)); (have x6 : wy.cell? ⟨ba, 6, none⟩ = some (.int .i64 (VA 6)) := hP2.ca 6 (by decide)); (have x7 : wy.cell? ⟨ba, 7, none⟩ = some (.int .i64 (VA 7)) := hP2.ca 7 (by decide)); (have x8 : wy.cell? ⟨ba, 8, none⟩ = some (.int .i64 (VA 8)) := hP2.ca 8 (by decide)); (have x9 : wy.cell? ⟨ba, 9, none⟩ = some (.int .i64 (VA 9)) := hP2.ca 9 (by decide)); (have x10 : wy.cell? ⟨ba, 10, none⟩ = some (.int .i64 (VA 10)) := hP2.ca 10 (by decide)); (have x11 : wy.cell? ⟨ba, 11, none⟩ = some (.int .i64 (VA 11)) := hP2.ca 11 (by decide))
         refine tr hK (fun hHeld => ?_)
         clear hK K)
        refine wpAnyH_done (by kernel_rfl) ?_ _
        go_wp2_with fail
        go_meet
        exact ⟨hP2, hq, hF2⟩
      | false =>
        simp only [cond_false] at hUA
        subst hUA
        have gg := of_decide_eq_false hMA
        go_wp2_with fail
        go_meet
        exact ⟨hP, ho, hF⟩
    case rest =>
    clear hP ho hF hUA
    obtain ⟨hP, ho, hF⟩ := hcut
    refine hK8 _ _ ?_
    have hUB := hR
    clear hR
    have k0 := hP.k0
    have k1 := hP.k1
    have k2 := hP.k2
    have k3 := hP.k3
    have k4 := hP.k4
    have x0 : wc.cell? ⟨bb, 0, none⟩ = some (.int .i64 (VB 0)) := hP.cb 0 (by decide)
    have x1 : wc.cell? ⟨bb, 1, none⟩ = some (.int .i64 (VB 1)) := hP.cb 1 (by decide)
    have x2 : wc.cell? ⟨bb, 2, none⟩ = some (.int .i64 (VB 2)) := hP.cb 2 (by decide)
    have x3 : wc.cell? ⟨bb, 3, none⟩ = some (.int .i64 (VB 3)) := hP.cb 3 (by decide)
    have x4 : wc.cell? ⟨bb, 4, none⟩ = some (.int .i64 (VB 4)) := hP.cb 4 (by decide)
    have x5 : wc.cell? ⟨bb, 5, none⟩ = some (.int .i64 (VB 5)) := hP.cb 5 (by decide)
    have x6 : wc.cell? ⟨bb, 6, none⟩ = some (.int .i64 (VB 6)) := hP.cb 6 (by decide)
    have x7 : wc.cell? ⟨bb, 7, none⟩ = some (.int .i64 (VB 7)) := hP.cb 7 (by decide)
    have x8 : wc.cell? ⟨bb, 8, none⟩ = some (.int .i64 (VB 8)) := hP.cb 8 (by decide)
    have x9 : wc.cell? ⟨bb, 9, none⟩ = some (.int .i64 (VB 9)) := hP.cb 9 (by decide)
    have x10 : wc.cell? ⟨bb, 10, none⟩ = some (.int .i64 (VB 10)) := hP.cb 10 (by decide)
    have x11 : wc.cell? ⟨bb, 11, none⟩ = some (.int .i64 (VB 11)) := hP.cb 11 (by decide)
    cases MB with
    | true =>
      simp only [cond_true] at hUB
      have gg := of_decide_eq_true hMB
      obtain ⟨M, hM⟩ : ∃ M, moveV VB pB qB = M := ⟨_, rfl⟩
      rw [hM] at hUB
      subst hUB
      go_upto_region 10 with fail
      refine wp_region_held_drew (S := fun w' => w'.cell? ⟨w.heap.size, 0, none⟩ = some (.int .i64 (A : Int)) ∧ w'.cell? ⟨w.heap.size, 1, none⟩ = some (.int .i64 (B : Int)) ∧ w'.cell? ⟨w.heap.size, 2, none⟩ = some (.int .i64 X) ∧ w'.cell? ⟨w.heap.size, 3, none⟩ = some (.int .i64 Y) ∧ w'.cell? ⟨w.heap.size, 4, none⟩ = some (.int .i64 D) ∧ w'.cell? ⟨bb, 0, none⟩ = some (.int .i64 (VB 0)) ∧ w'.cell? ⟨bb, 1, none⟩ = some (.int .i64 (VB 1)) ∧ w'.cell? ⟨bb, 2, none⟩ = some (.int .i64 (VB 2)) ∧ w'.cell? ⟨bb, 3, none⟩ = some (.int .i64 (VB 3)) ∧ w'.cell? ⟨bb, 4, none⟩ = some (.int .i64 (VB 4)) ∧ w'.cell? ⟨bb, 5, none⟩ = some (.int .i64 (VB 5)) ∧ w'.cell? ⟨bb, 6, none⟩ = some (.int .i64 (VB 6)) ∧ w'.cell? ⟨bb, 7, none⟩ = some (.int .i64 (VB 7)) ∧ w'.cell? ⟨bb, 8, none⟩ = some (.int .i64 (VB 8)) ∧ w'.cell? ⟨bb, 9, none⟩ = some (.int .i64 (VB 9)) ∧ w'.cell? ⟨bb, 10, none⟩ = some (.int .i64 (VB 10)) ∧ w'.cell? ⟨bb, 11, none⟩ = some (.int .i64 (VB 11))) (by kernel_rfl) ?_ (fun hHeld => ?_)
      · (try dsimp only)
        (first | (go_simp; done) | (go_keep; done))
      refine tq 0 hHeld ?_
      refine tq 1 hHeld ?_
      refine tq 2 hHeld ?_
      refine tq 3 hHeld ?_
      refine tq 4 hHeld ?_
      refine tq 5 hHeld ?_
      refine tq 6 hHeld ?_
      refine tq 7 hHeld ?_
      refine tq 8 hHeld ?_
      refine tq 9 hHeld ?_
      refine tq 10 hHeld ?_
      refine tq 11 hHeld ?_
      refine tq 12 hHeld ?_
      refine tq 13 hHeld ?_
      refine tq 14 hHeld ?_
      refine tq 15 hHeld ?_
      refine tq 16 hHeld ?_
      refine tq 17 hHeld ?_
      refine tq 18 hHeld ?_
      refine tc 19 fun K hK => ?_
      (go_simp; (go_at_call 111; refine (l6Move_any VB pB qB _ b4B b5B rpB rqB).mono ?_; rintro e wm ⟨rfl, hbm⟩; (try rw [hM]); have hPm := hP.on hbm.ofDr; have hom := ho.below hbm.ofDr; have hFm := hF.trans (Fr.of_below hbm.ofDr); clear k0 k1 k2 k3 k4 x0 x1 x2 x3 x4 x5 x6 x7 x8 x9 x10 x11 hP ho hF hbm; have k0 := hPm.k0; have k1 := hPm.k1; have k2 := hPm.k2; have k3 := hPm.k3; have k4 := hPm.k4; (have x0 : wm.cell? ⟨bb, 0, none⟩ = some (.int .i64 (VB 0)) := hPm.cb 0 (by decide)); (have x1 : wm.cell? ⟨bb, 1, none⟩ = some (.int .i64 (VB 1)) := hPm.cb 1 (by decide)); (have x2 : wm.cell? ⟨bb, 2, none⟩ = some (.int .i64 (VB 2)) := hPm.cb 2 (by decide)); (have x3 : wm.cell? ⟨bb, 3, none⟩ = some (.int .i64 (VB 3)) := hPm.cb 3 (by decide)); (have x4 : wm.cell? ⟨bb, 4, none⟩ = some (.int .i64 (VB 4)) := hPm.cb 4 (by decide)); (have x5 : wm.cell? ⟨bb, 5, none⟩ = some (.int .i64 (VB 5)) := hPm.cb 5 (by decide)); (have x6 : wm.cell? ⟨bb, 6, none⟩ = some (.int .i64 (VB 6)) := hPm.cb 6 (by decide)); (have x7 : wm.cell? ⟨bb, 7, none⟩ = some (.int .i64 (VB 7)) := hPm.cb 7 (by decide)); (have x8 : wm.cell? ⟨bb, 8, none⟩ = some (.int .i64 (VB 8)) := hPm.cb 8 (by decide)); (have x9 : wm.cell? ⟨bb, 9, none⟩ = some (.int .i64 (VB 9)) := hPm.cb 9 (by decide)); (have x10 : wm.cell? ⟨bb, 10, none⟩ = some (.int .i64 (VB 10)) := hPm.cb 10 (by decide)); (have x11 : wm.cell? ⟨bb, 11, none⟩ = some (.int .i64 (VB 11)) := hPm.cb 11 (by decide)); have umf := hom.fro; (have um0 := hom.cellq (q := B * 12) (iB 0 (by decide))); (have um1 := hom.cellq (q := B * 12 + 1) (iB 1 (by decide))); (have um2 := hom.cellq (q := B * 12 + 2) (iB 2 (by decide))); (have um3 := hom.cellq (q := B * 12 + 3) (iB 3 (by decide))); (have um4 := hom.cellq (q := B * 12 + 4) (iB 4 (by decide))); (have um5 := hom.cellq (q := B * 12 + 5) (iB 5 (by decide))); (have um6 := hom.cellq (q := B * 12 + 6) (iB 6 (by decide))); (have um7 := hom.cellq (q := B * 12 + 7) (iB 7 (by decide))); (have um8 := hom.cellq (q := B * 12 + 8) (iB 8 (by decide))); (have um9 := hom.cellq (q := B * 12 + 9) (iB 9 (by decide))); (have um10 := hom.cellq (q := B * 12 + 10) (iB 10 (by decide))); (have um11 := hom.cellq (q := B * 12 + 11) (iB 11 (by decide)))); (try go_wp2_with fail); refine tr hK (fun hHeld => ?_); clear hK K)
      refine tq 20 hHeld ?_
      refine tc 21 fun K hK => ?_
      (go_simp
       have hq := put12 hom hB M
       have hfq := putFr (w4 := wm) (g := g) (p := B) M
       have hP2 := hPm.fr hfq hgl
       have hF2 := hFm.trans hfq
       clear k0 k1 k2 k3 k4 x0 x1 x2 x3 x4 x5 x6 x7 x8 x9 x10 x11 hPm hom hFm hfq umf um0 um1 um2 um3 um4 um5 um6 um7 um8 um9 um10 um11
       generalize ((((((((((((wm.setCell ⟨g, B * 12, none⟩ (.int .i64 (M 0))).setCell ⟨g, B * 12 + 1, none⟩ (.int .i64 (M 1))).setCell ⟨g, B * 12 + 2, none⟩ (.int .i64 (M 2))).setCell ⟨g, B * 12 + 3, none⟩ (.int .i64 (M 3))).setCell ⟨g, B * 12 + 4, none⟩ (.int .i64 (M 4))).setCell ⟨g, B * 12 + 5, none⟩ (.int .i64 (M 5))).setCell ⟨g, B * 12 + 6, none⟩ (.int .i64 (M 6))).setCell ⟨g, B * 12 + 7, none⟩ (.int .i64 (M 7))).setCell ⟨g, B * 12 + 8, none⟩ (.int .i64 (M 8))).setCell ⟨g, B * 12 + 9, none⟩ (.int .i64 (M 9))).setCell ⟨g, B * 12 + 10, none⟩ (.int .i64 (M 10))).setCell ⟨g, B * 12 + 11, none⟩ (.int .i64 (M 11))) = wy at hq hP2 hF2 ⊢
       have k0 := hP2.k0; have k1 := hP2.k1; have k2 := hP2.k2; have k3 := hP2.k3; have k4 := hP2.k4; (have x0 : wy.cell? ⟨bb, 0, none⟩ = some (.int .i64 (VB 0)) := hP2.cb 0 (by decide)); (have x1 : wy.cell? ⟨bb, 1, none⟩ = some (.int .i64 (VB 1)) := hP2.cb 1 (by decide)); (have x2 : wy.cell? ⟨bb, 2, none⟩ = some (.int .i64 (VB 2)) := hP2.cb 2 (by decide)); (have x3 : wy.cell? ⟨bb, 3, none⟩ = some (.int .i64 (VB 3)) := hP2.cb 3 (by decide)); (have x4 : wy.cell? ⟨bb, 4, none⟩ = some (.int .i64 (VB 4)) := hP2.cb 4 (by decide)); (have x5 : wy.cell? ⟨bb, 5, none⟩ = some (.int .i64 (VB 5)) := hP2.cb 5 (by decide)); (have x6 : wy.cell? ⟨bb, 6, none⟩ = some (.int .i64 (VB 6)) := hP2.cb 6 (by decide)); (have x7 : wy.cell? ⟨bb, 7, none⟩ = some (.int .i64 (VB 7)) := hP2.cb 7 (by decide)); (have x8 : wy.cell? ⟨bb, 8, none⟩ = some (.int .i64 (VB 8)) := hP2.cb 8 (by decide)); (have x9 : wy.cell? ⟨bb, 9, none⟩ = some (.int .i64 (VB 9)) := hP2.cb 9 (by decide)); (have x10 : wy.cell? ⟨bb, 10, none⟩ = some (.int .i64 (VB 10)) := hP2.cb 10 (by decide)); (have x11 : wy.cell? ⟨bb, 11, none⟩ = some (.int .i64 (VB 11)) := hP2.cb 11 (by decide))
       refine tr hK (fun hHeld => ?_)
       clear hK K)
      refine wpAnyH_done (by kernel_rfl) ?_ _
      go_wp2_with fail
      go_end0
      exact ⟨rfl, hq, hF2⟩
    | false =>
      simp only [cond_false] at hUB
      subst hUB
      have gg := of_decide_eq_false hMB
      go_wp2_with fail
      go_end0
      exact ⟨rfl, ho, hF⟩
  · rw [decide_eq_false h0] at hR
    simp only [cond_false] at hR
    subst hR
    have h1 : nn ≤ 0 := by omega
    go_enter Tryz.func110, Tryz.ntmps110
    go_wp2_with fail
    refine bodyPost_ret (results_none rfl _ _ _) rfl ?_
    exact ⟨rfl, ho0.below hE, Fr.of_below hE⟩
end Go.Proofs.YtkblddegfobpaaaGreat
namespace Go.Proofs.YtkblddegfobpaaaGreat
open Go.RowKit
set_option linter.unusedVariables false
set_option linter.unusedSimpArgs false
/-- what moving two apart does -/
def ApartDoes : Prop := ∀ (base g n c : Nat) (U : Nat → Int) (A B : Nat) (X Y D : Int) (w : World), OwnL w base 38 12 (.slice (some ⟨g, 0, none⟩) n c) n U → n ≤ 1048576 → A < n → B < n → Bods n U → (-256 ≤ X ∧ X ≤ 256) → (-256 ≤ Y ∧ Y ≤ 256) → (0 ≤ D ∧ D ≤ 102400) → Calls Tryz.prog 110 #[.slice (some ⟨g, 0, none⟩) n c, .agg #[.int .i64 (A : Int), .int .i64 (B : Int), .int .i64 X, .int .i64 Y, .int .i64 D]] w fun e w' => e = .returned (.tuple #[]) ∧ OwnL w' base 38 12 (.slice (some ⟨g, 0, none⟩) n c) n (apartU U A B X Y D) ∧ Fr (fun b => b = g) w w'
set_option maxRecDepth 20000 in
set_option maxHeartbeats 8000000 in
theorem l8Aparts_of (HA : ApartDoes) (a : Option Addr) (n c : Nat) (U : Nat → Int) (ac : Option Addr) (m cc : Nat) (C : Nat → Int) (w : World) (h : Flat w a (n * 12) U) (hn : n ≤ 1048576) (hm : m ≤ 1048576) (h2 : Flat w ac (m * 5) C) (hbb : Bods n U) (hC : CtOk n m C) :
    Calls Tryz.prog 86 #[.slice a n c, .slice ac m cc] w fun e w' => ∃ a1 c1, e = .returned (.slice a1 n c1) ∧ OutL w w' 38 12 a1 n c1 (apartN C U m) := by
  have hset := cset_map
  go_enter Tryz.func86, Tryz.ntmps86
  go_upto_region 1 with fail
  go_cut [5] (fun s0 wc => ∃ a1 c1, s0 = .slice a1 n c1 ∧ OutL w wc 38 12 a1 n c1 U)
  case first =>
    go_wp2_with (go_at_call 108; refine (l8Copy_any a n c U _ h hn).mono ?_; rintro e w3 ⟨a1, c1, rfl, hO⟩)
    go_meet
    exact ⟨_, _, rfl, hO⟩
  case rest =>
  obtain ⟨a1, c1, rfl, hO⟩ := hcut
  
  go_upto_region 3 with fail
  go_loopw [6] (fun s wr => ∃ k : Nat, k ≤ m ∧ s = .int .i64 (k : Int) ∧ OutL w wr 38 12 a1 n c1 (apartN C U k)) (fun s _ => m - (intOf s).toNat)
  case atStart => exact ⟨0, Nat.zero_le _, rfl, hO⟩
  case round =>
    clear hO
    obtain ⟨k, hk, rfl, hO⟩ := hrel
    by_cases hlt : k < m
    · have hkm : (k : Int) < (m : Int) := by omega
      have ca := hC.a k hlt
      have cb := hC.b k hlt
      have cx := hC.x k hlt
      have cy := hC.y k hlt
      have cd := hC.d k hlt
      have hB := (hbb.aparts hC k hk).1
      obtain ⟨b2, o2, e2, hbl2, hc2⟩ := (h2.below hO.bel) (by omega)
      have r0 := hc2 (k * 5) (by omega)
      have r1 := hc2 (k * 5 + 1) (by omega)
      have r2 := hc2 (k * 5 + 2) (by omega)
      have r3 := hc2 (k * 5 + 3) (by omega)
      have r4 := hc2 (k * 5 + 4) (by omega)
      simp only [← Nat.add_assoc] at r0 r1 r2 r3 r4
      clear hc2
      subst e2
      have HN : Shut (apartN C U (k + 1) = apartU (apartN C U k) (C (k * 5)).toNat (C (k * 5 + 1)).toNat (C (k * 5 + 2)) (C (k * 5 + 3)) (C (k * 5 + 4))) := by show _ = _; rw [apartN]
      obtain ⟨A, hA⟩ : ∃ A : Nat, C (k * 5) = (A : Int) := ⟨(C (k * 5)).toNat, by omega⟩
      obtain ⟨B, hBB⟩ : ∃ B : Nat, C (k * 5 + 1) = (B : Int) := ⟨(C (k * 5 + 1)).toNat, by omega⟩
      rw [hA, hBB, Int.toNat_natCast, Int.toNat_natCast] at HN
      rw [hA] at ca r0
      rw [hBB] at cb r1
      clear hA hBB
      obtain ⟨g, rfl, hg1, hg2⟩ := hO.own.loc (by omega)
      go_wp2_with (go_at_call 110; refine (HA w.heap.size g n c1 (apartN C U k) A B _ _ _ _ hO.own hn (by omega) (by omega) hB cx cy cd).mono ?_; rintro e w5 ⟨rfl, ho5, hf5⟩)
      have hB5 : Below w.heap.size w w5 := hO.bel.trans (hf5.below (by have := hO.bel.size; omega) (fun b e => by omega))
      go_roundw
      case rel => exact ⟨k + 1, by omega, by go_num, hB5, by rw [HN.out]; exact ho5⟩
      case measure => simp [intOf]; omega
    · obtain rfl : k = m := by omega
      go_wp2_with fail
      go_ret
      exact ⟨_, _, rfl, hO⟩
end Go.Proofs.YtkblddegfobpaaaGreat
namespace Go.Proofs.YtkblddegfobpaaaGreat
open Go.RowKit
set_option linter.unusedVariables false
set_option linter.unusedSimpArgs false

set_option maxRecDepth 20000 in
set_option maxHeartbeats 4000000 in
theorem sBodiesOk_any (a : Option Addr) (n c : Nat) (U : Nat → Int) (w : World) (h : Flat w a (n * 12) U) (hn : n ≤ 1048576) :
    Calls Tryz.prog 8 #[.slice a n c] w fun e w' => e = .returned (.bool (bodsB n U)) ∧ Below w.heap.size w w' := by
  have hset := cset_map
  go_enter Tryz.func8, Tryz.ntmps8
  go_wp2
  go_loopw [3] (fun i wr => ∃ k : Nat, k ≤ n ∧ i = .int .i64 (k : Int) ∧ Below w.heap.size w wr ∧ allBB U k = true) (fun i _ => n - (intOf i).toNat)
  case atStart => exact ⟨0, Nat.zero_le _, rfl, Below.refl _ _, rfl⟩
  case round =>
      obtain ⟨k, hk, rfl, hB, hall0⟩ := hrel
      have hall : Shut (allBB U k = true) := hall0
      clear hall0
      by_cases hlt : k < n
      · have hkn : (k : Int) < (n : Int) := by omega
        obtain ⟨b, o, rfl, hbl, hc⟩ := (h.below hB) (by omega)
        have c0 := hc (k * 12) (by omega)
        have c1 := hc (k * 12 + 1) (by omega)
        have c2 := hc (k * 12 + 2) (by omega)
        have c3 := hc (k * 12 + 3) (by omega)
        have c4 := hc (k * 12 + 4) (by omega)
        have c5 := hc (k * 12 + 5) (by omega)
        have c6 := hc (k * 12 + 6) (by omega)
        have c7 := hc (k * 12 + 7) (by omega)
        have c8 := hc (k * 12 + 8) (by omega)
        have c9 := hc (k * 12 + 9) (by omega)
        have c10 := hc (k * 12 + 10) (by omega)
        have c11 := hc (k * 12 + 11) (by omega)
        simp only [← Nat.add_assoc] at c0 c1 c2 c3 c4 c5 c6 c7 c8 c9 c10 c11
        go_upto_region 4 with fail
        cases hi : bodyB (fun j => U (k * 12 + j)) with
        | false =>
          have hno : Shut (stepBB U k = false) := by show stepBB U k = false; rw [stepBB, hi]; rfl
          clear hc
          refine wp_region_held_drew (S := fun w' => w'.cell? ⟨b, o + k * 12, none⟩ = some (.int .i64 (U (k * 12))) ∧ w'.cell? ⟨b, o + k * 12 + 1, none⟩ = some (.int .i64 (U (k * 12 + 1))) ∧ w'.cell? ⟨b, o + k * 12 + 2, none⟩ = some (.int .i64 (U (k * 12 + 2))) ∧ w'.cell? ⟨b, o + k * 12 + 3, none⟩ = some (.int .i64 (U (k * 12 + 3))) ∧ w'.cell? ⟨b, o + k * 12 + 4, none⟩ = some (.int .i64 (U (k * 12 + 4))) ∧ w'.cell? ⟨b, o + k * 12 + 5, none⟩ = some (.int .i64 (U (k * 12 + 5))) ∧ w'.cell? ⟨b, o + k * 12 + 6, none⟩ = some (.int .i64 (U (k * 12 + 6))) ∧ w'.cell? ⟨b, o + k * 12 + 7, none⟩ = some (.int .i64 (U (k * 12 + 7))) ∧ w'.cell? ⟨b, o + k * 12 + 8, none⟩ = some (.int .i64 (U (k * 12 + 8))) ∧ w'.cell? ⟨b, o + k * 12 + 9, none⟩ = some (.int .i64 (U (k * 12 + 9))) ∧ w'.cell? ⟨b, o + k * 12 + 10, none⟩ = some (.int .i64 (U (k * 12 + 10))) ∧ w'.cell? ⟨b, o + k * 12 + 11, none⟩ = some (.int .i64 (U (k * 12 + 11)))) (by kernel_rfl) ?_ (fun hHeld => ?_)
          · (try dsimp only)
            (first | (go_simp; done) | (go_keep; done))
          refine tq 0 hHeld ?_
          refine tq 1 hHeld ?_
          refine tq 2 hHeld ?_
          refine tq 3 hHeld ?_
          (refine tc 4 fun K hK => ?_; go_simp; (go_at_call 15; refine (sBodyOk_q (fun j => U (k * 12 + j)) _ _ (by exact hi)).mono ?_; rintro e w2 ⟨rfl, hb2⟩; obtain ⟨hc2, hf2⟩ := bcell hb2; have hz2 := hb2.size; (try simp only [World.size_drew, World.size_alloc, World.size_setCell] at hc2 hf2 hz2); have hk3 := fun o => hc2 b o (by omega); clear hc2 hf2); (try go_wp2_with fail); refine tr hK (fun hHeld => ?_); clear hK K)
          refine tq 5 hHeld ?_
          refine tq 6 hHeld ?_
          refine tn 7 hHeld ?_
          refine tn 8 hHeld ?_
          refine tn 9 hHeld ?_
          refine tn 10 hHeld ?_
          refine tn 11 hHeld ?_
          refine tn 12 hHeld ?_
          refine tn 13 hHeld ?_
          refine tn 14 hHeld ?_
          refine tn 15 hHeld ?_
          refine tn 16 hHeld ?_
          refine tn 17 hHeld ?_
          refine tn 18 hHeld ?_
          refine tn 19 hHeld ?_
          refine tn 20 hHeld ?_
          refine tn 21 hHeld ?_
          refine tn 22 hHeld ?_
          refine tq 23 hHeld ?_
          refine wpAnyH_done (by kernel_rfl) ?_ _
          go_wp2_with fail
          go_ret
          exact ⟨by rw [bodsB, allBB_no hno.out n hlt, Bool.and_false]; rfl, hB.trans (hb2.ofDr.mono hB.size)⟩
        | true =>
          by_cases hk0 : 0 < k
          · have hd0 : decide (0 < k) = true := decide_eq_true hk0
            obtain ⟨j, hj⟩ : ∃ j, j + 1 = k := ⟨k - 1, by omega⟩
            have hj' : (k : Int) - 1 = (j : Int) := by omega
            have hjn : j < n := by omega
            have hwj : IntKind.i64.wrap (j : Int) = (j : Int) := i64w (by omega)
            have HJ : Shut (j + 1 = k) := hj
            clear hj
            have p0 := hc (j * 12) (by omega)
            clear hc
            by_cases hge : U (j * 12) < U (k * 12)
            · have hdg : decide (U (k * 12) ≤ U (j * 12)) = false := decide_eq_false (by omega)
              have hyes : Shut (stepBB U k = true) := by show stepBB U k = true; rw [stepBB, hi, show k - 1 = j from by have := HJ.out; omega]; simp [hge]
              refine wp_region_held_drew (S := fun w' => w'.cell? ⟨b, o + k * 12, none⟩ = some (.int .i64 (U (k * 12))) ∧ w'.cell? ⟨b, o + k * 12 + 1, none⟩ = some (.int .i64 (U (k * 12 + 1))) ∧ w'.cell? ⟨b, o + k * 12 + 2, none⟩ = some (.int .i64 (U (k * 12 + 2))) ∧ w'.cell? ⟨b, o + k * 12 + 3, none⟩ = some (.int .i64 (U (k * 12 + 3))) ∧ w'.cell? ⟨b, o + k * 12 + 4, none⟩ = some (.int .i64 (U (k * 12 + 4))) ∧ w'.cell? ⟨b, o + k * 12 + 5, none⟩ = some (.int .i64 (U (k * 12 + 5))) ∧ w'.cell? ⟨b, o + k * 12 + 6, none⟩ = some (.int .i64 (U (k * 12 + 6))) ∧ w'.cell? ⟨b, o + k * 12 + 7, none⟩ = some (.int .i64 (U (k * 12 + 7))) ∧ w'.cell? ⟨b, o + k * 12 + 8, none⟩ = some (.int .i64 (U (k * 12 + 8))) ∧ w'.cell? ⟨b, o + k * 12 + 9, none⟩ = some (.int .i64 (U (k * 12 + 9))) ∧ w'.cell? ⟨b, o + k * 12 + 10, none⟩ = some (.int .i64 (U (k * 12 + 10))) ∧ w'.cell? ⟨b, o + k * 12 + 11, none⟩ = some (.int .i64 (U (k * 12 + 11))) ∧ w'.cell? ⟨b, o + j * 12, none⟩ = some (.int .i64 (U (j * 12)))) (by kernel_rfl) ?_ (fun hHeld => ?_)
              · (try dsimp only)
                (first | (go_simp; done) | (go_keep; done))
              refine tq 0 hHeld ?_
              refine tq 1 hHeld ?_
              refine tq 2 hHeld ?_
              refine tq 3 hHeld ?_
              (refine tc 4 fun K hK => ?_; go_simp; (go_at_call 15; refine (sBodyOk_q (fun j => U (k * 12 + j)) _ _ (by exact hi)).mono ?_; rintro e w2 ⟨rfl, hb2⟩; obtain ⟨hc2, hf2⟩ := bcell hb2; have hz2 := hb2.size; (try simp only [World.size_drew, World.size_alloc, World.size_setCell] at hc2 hf2 hz2); have hk3 := fun o => hc2 b o (by omega); clear hc2 hf2); (try go_wp2_with fail); refine tr hK (fun hHeld => ?_); clear hK K)
              refine tq 5 hHeld ?_
              refine tq 6 hHeld ?_
              refine tq 7 hHeld ?_
              refine tq 8 hHeld ?_
              refine tq 9 hHeld ?_
              refine tq 10 hHeld ?_
              refine tq 11 hHeld ?_
              refine tq 12 hHeld ?_
              refine tq 13 hHeld ?_
              refine tq 14 hHeld ?_
              refine tq 15 hHeld ?_
              refine tq 16 hHeld ?_
              refine tq 17 hHeld ?_
              refine tq 18 hHeld ?_
              refine tq 19 hHeld ?_
              refine tq 20 hHeld ?_
              refine tq 21 hHeld ?_
              refine tq 22 hHeld ?_
              refine tq 23 hHeld ?_
              refine wpAnyH_done (by kernel_rfl) ?_ _
              go_wp2_with fail
              go_roundw
              case rel => exact ⟨k + 1, by omega, by go_num, hB.trans (hb2.ofDr.mono hB.size), by rw [allBB, hall.out, hyes.out]; rfl⟩
              case measure => simp [intOf]; omega
            · have hdg : decide (U (k * 12) ≤ U (j * 12)) = true := decide_eq_true (by omega)
              have hno : Shut (stepBB U k = false) := by show stepBB U k = false; rw [stepBB, show k - 1 = j from by have := HJ.out; omega]; have := HJ.out; simp [hge]; omega
              refine wp_region_held_drew (S := fun w' => w'.cell? ⟨b, o + k * 12, none⟩ = some (.int .i64 (U (k * 12))) ∧ w'.cell? ⟨b, o + k * 12 + 1, none⟩ = some (.int .i64 (U (k * 12 + 1))) ∧ w'.cell? ⟨b, o + k * 12 + 2, none⟩ = some (.int .i64 (U (k * 12 + 2))) ∧ w'.cell? ⟨b, o + k * 12 + 3, none⟩ = some (.int .i64 (U (k * 12 + 3))) ∧ w'.cell? ⟨b, o + k * 12 + 4, none⟩ = some (.int .i64 (U (k * 12 + 4))) ∧ w'.cell? ⟨b, o + k * 12 + 5, none⟩ = some (.int .i64 (U (k * 12 + 5))) ∧ w'.cell? ⟨b, o + k * 12 + 6, none⟩ = some (.int .i64 (U (k * 12 + 6))) ∧ w'.cell? ⟨b, o + k * 12 + 7, none⟩ = some (.int .i64 (U (k * 12 + 7))) ∧ w'.cell? ⟨b, o + k * 12 + 8, none⟩ = some (.int .i64 (U (k * 12 + 8))) ∧ w'.cell? ⟨b, o + k * 12 + 9, none⟩ = some (.int .i64 (U (k * 12 + 9))) ∧ w'.cell? ⟨b, o + k * 12 + 10, none⟩ = some (.int .i64 (U (k * 12 + 10))) ∧ w'.cell? ⟨b, o + k * 12 + 11, none⟩ = some (.int .i64 (U (k * 12 + 11))) ∧ w'.cell? ⟨b, o + j * 12, none⟩ = some (.int .i64 (U (j * 12)))) (by kernel_rfl) ?_ (fun hHeld => ?_)
              · (try dsimp only)
                (first | (go_simp; done) | (go_keep; done))
              refine tq 0 hHeld ?_
              refine tq 1 hHeld ?_
              refine tq 2 hHeld ?_
              refine tq 3 hHeld ?_
              (refine tc 4 fun K hK => ?_; go_simp; (go_at_call 15; refine (sBodyOk_q (fun j => U (k * 12 + j)) _ _ (by exact hi)).mono ?_; rintro e w2 ⟨rfl, hb2⟩; obtain ⟨hc2, hf2⟩ := bcell hb2; have hz2 := hb2.size; (try simp only [World.size_drew, World.size_alloc, World.size_setCell] at hc2 hf2 hz2); have hk3 := fun o => hc2 b o (by omega); clear hc2 hf2); (try go_wp2_with fail); refine tr hK (fun hHeld => ?_); clear hK K)
              refine tq 5 hHeld ?_
              refine tq 6 hHeld ?_
              refine tq 7 hHeld ?_
              refine tq 8 hHeld ?_
              refine tq 9 hHeld ?_
              refine tq 10 hHeld ?_
              refine tq 11 hHeld ?_
              refine tq 12 hHeld ?_
              refine tq 13 hHeld ?_
              refine tq 14 hHeld ?_
              refine tq 15 hHeld ?_
              refine tq 16 hHeld ?_
              refine tq 17 hHeld ?_
              refine tq 18 hHeld ?_
              refine tq 19 hHeld ?_
              refine tq 20 hHeld ?_
              refine tq 21 hHeld ?_
              refine tq 22 hHeld ?_
              refine tq 23 hHeld ?_
              refine wpAnyH_done (by kernel_rfl) ?_ _
              go_wp2_with fail
              go_ret
              exact ⟨by rw [bodsB, allBB_no hno.out n hlt, Bool.and_false]; rfl, hB.trans (hb2.ofDr.mono hB.size)⟩
          · have hd0 : decide (0 < k) = false := decide_eq_false hk0
            have HK : Shut (k = 0) := (by omega : k = 0)
            clear hk0 hc
            have hyes : Shut (stepBB U k = true) := by show stepBB U k = true; rw [stepBB, hi, HK.out]; rfl
            refine wp_region_held_drew (S := fun w' => w'.cell? ⟨b, o + k * 12, none⟩ = some (.int .i64 (U (k * 12))) ∧ w'.cell? ⟨b, o + k * 12 + 1, none⟩ = some (.int .i64 (U (k * 12 + 1))) ∧ w'.cell? ⟨b, o + k * 12 + 2, none⟩ = some (.int .i64 (U (k * 12 + 2))) ∧ w'.cell? ⟨b, o + k * 12 + 3, none⟩ = some (.int .i64 (U (k * 12 + 3))) ∧ w'.cell? ⟨b, o + k * 12 + 4, none⟩ = some (.int .i64 (U (k * 12 + 4))) ∧ w'.cell? ⟨b, o + k * 12 + 5, none⟩ = some (.int .i64 (U (k * 12 + 5))) ∧ w'.cell? ⟨b, o + k * 12 + 6, none⟩ = some (.int .i64 (U (k * 12 + 6))) ∧ w'.cell? ⟨b, o + k * 12 + 7, none⟩ = some (.int .i64 (U (k * 12 + 7))) ∧ w'.cell? ⟨b, o + k * 12 + 8, none⟩ = some (.int .i64 (U (k * 12 + 8))) ∧ w'.cell? ⟨b, o + k * 12 + 9, none⟩ = some (.int .i64 (U (k * 12 + 9))) ∧ w'.cell? ⟨b, o + k * 12 + 10, none⟩ = some (.int .i64 (U (k * 12 + 10))) ∧ w'.cell? ⟨b, o + k * 12 + 11, none⟩ = some (.int .i64 (U (k * 12 + 11)))) (by kernel_rfl) ?_ (fun hHeld => ?_)
            · (try dsimp only)
              (first | (go_simp; done) | (go_keep; done))
            refine tq 0 hHeld ?_
            refine tq 1 hHeld ?_
            refine tq 2 hHeld ?_
            refine tq 3 hHeld ?_
            (refine tc 4 fun K hK => ?_; go_simp; (go_at_call 15; refine (sBodyOk_q (fun j => U (k * 12 + j)) _ _ (by exact hi)).mono ?_; rintro e w2 ⟨rfl, hb2⟩; obtain ⟨hc2, hf2⟩ := bcell hb2; have hz2 := hb2.size; (try simp only [World.size_drew, World.size_alloc, World.size_setCell] at hc2 hf2 hz2); have hk3 := fun o => hc2 b o (by omega); clear hc2 hf2); (try go_wp2_with fail); refine tr hK (fun hHeld => ?_); clear hK K)
            refine tq 5 hHeld ?_
            refine tq 6 hHeld ?_
            refine tq 7 hHeld ?_
            refine tq 8 hHeld ?_
            refine tq 9 hHeld ?_
            refine tn 10 hHeld ?_
            refine tn 11 hHeld ?_
            refine tn 12 hHeld ?_
            refine tn 13 hHeld ?_
            refine tn 14 hHeld ?_
            refine tn 15 hHeld ?_
            refine tn 16 hHeld ?_
            refine tn 17 hHeld ?_
            refine tn 18 hHeld ?_
            refine tn 19 hHeld ?_
            refine tn 20 hHeld ?_
            refine tn 21 hHeld ?_
            refine tq 22 hHeld ?_
            refine tq 23 hHeld ?_
            refine wpAnyH_done (by kernel_rfl) ?_ _
            go_wp2_with fail
            go_roundw
            case rel => exact ⟨k + 1, by omega, by go_num, hB.trans (hb2.ofDr.mono hB.size), by rw [allBB, hall.out, hyes.out]; rfl⟩
            case measure => simp [intOf]; omega
      · obtain rfl : k = n := by omega
        by_cases h12 : k ≤ 12
        · have h12' : (k : Int) ≤ 12 := by omega
          go_wp2
          go_ret
          exact ⟨by rw [bodsB, hall.out, decide_eq_true h12]; rfl, hB⟩
        · have h12' : ¬ (k : Int) ≤ 12 := by omega
          go_wp2
          go_ret
          exact ⟨by rw [bodsB, decide_eq_false h12]; rfl, hB⟩
theorem sBodiesOk_q (a : Option Addr) (n c : Nat) (U : Nat → Int) (b : Bool) (w : World) (h : Flat w a (n * 12) U) (hn : n ≤ 1048576) (e : bodsB n U = b) :
    Calls Tryz.prog 8 #[.slice a n c] w fun e w' => e = .returned (.bool b) ∧ Below w.heap.size w w' := by subst e; exact sBodiesOk_any a n c U w h hn
theorem columnsOf_ok (a : Option Addr) (n c : Nat) (U : Nat → Int) (w : World) (h : Flat w a (n * 12) U) (hn : n ≤ 1048576) (e : bodsB n U = true) :
    Calls Tryz.prog 12 #[.slice a n c] w fun e w' => ∃ cb S, e = .returned (.tuple #[.pointer (some ⟨cb, 0, none⟩), .bool true]) ∧ w.heap.size ≤ cb ∧ Cs w' cb n (colOf U) S ∧ Below w.heap.size w w' :=
  (columnsOf_any a n c U w h hn).mono fun e' w' q => by
    obtain ⟨q1, (⟨_, cb, S, q2, q3, q4⟩ | ⟨q2, _⟩)⟩ := q
    · exact ⟨cb, S, q2, q3, q4, q1⟩
    · rw [e] at q2; cases q2
theorem columnsOf_no (a : Option Addr) (n c : Nat) (U : Nat → Int) (w : World) (h : Flat w a (n * 12) U) (hn : n ≤ 1048576) (e : bodsB n U = false) :
    Calls Tryz.prog 12 #[.slice a n c] w fun e w' => e = .returned (.tuple #[.pointer none, .bool false]) ∧ Below w.heap.size w w' :=
  (columnsOf_any a n c U w h hn).mono fun e' w' q => by
    obtain ⟨q1, (⟨q2, _⟩ | ⟨_, q2⟩)⟩ := q
    · rw [e] at q2; cases q2
    · exact ⟨q2, q1⟩
end Go.Proofs.YtkblddegfobpaaaGreat
namespace Go.Proofs.YtkblddegfobpaaaGreat
open Go.RowKit
set_option linter.unusedVariables false
set_option linter.unusedSimpArgs false

theorem l5Touch_q (k1 g1 h1 x y k2 g2 h2 u v X Y D : Int) (K : Bool) (w : World) (s1 : shB k1 g1 h1 = true) (s2 : shB k2 g2 h2 = true) (p1 : inB 2560000 x y = true) (p2 : inB 2560000 u v = true) (e : toT k1 g1 h1 x y k2 g2 h2 u v = ((X, Y, D), K)) :
    Calls Tryz.prog 28 #[s3 k1 g1 h1, vv x y, s3 k2 g2 h2, vv u v] w fun e w' => e = .returned (.tuple #[s3 X Y D, .bool K]) ∧ Below w.heap.size w w' := by
  have e2 : toT k1 g1 h1 x y k2 g2 h2 u v = tcT k1 g1 h1 x y k2 g2 h2 u v := by unfold toT; rw [if_pos (by simp [*])]
  rw [e2] at e
  obtain ⟨px, py⟩ := inB_of p1
  obtain ⟨pu, pv⟩ := inB_of p2
  rcases shB_kinds s1 with ⟨rfl, rfl, a1, a2⟩ | ⟨rfl, a1, a2, a3, a4⟩ <;> rcases shB_kinds s2 with ⟨rfl, rfl, b1, b2⟩ | ⟨rfl, b1, b2, b3, b4⟩
  · exact sT_rr g1 g2 x y u v X Y D K w ⟨a1, a2⟩ ⟨b1, b2⟩ px py pu pv (by simpa [tcT] using e)
  · exact sT_rb g1 g2 h2 x y u v X Y D K w ⟨a1, a2⟩ ⟨b1, b2⟩ ⟨b3, b4⟩ px py pu pv (by simpa [tcT] using e)
  · exact sT_br g1 h1 g2 x y u v X Y D K w ⟨a1, a2⟩ ⟨a3, a4⟩ ⟨b1, b2⟩ px py pu pv (by simpa [tcT] using e)
  · exact sT_bb g1 h1 g2 h2 x y u v X Y D K w ⟨a1, a2⟩ ⟨a3, a4⟩ ⟨b1, b2⟩ ⟨b3, b4⟩ px py pu pv (by simpa [tcT] using e)
theorem bods_sh {U : Nat → Int} {n k : Nat} (h : bodsB n U = true) (l : k < n) : shB (U (k * 12 + 1)) (U (k * 12 + 2)) (U (k * 12 + 3)) = true ∧ inB 2560000 (U (k * 12 + 4)) (U (k * 12 + 5)) = true := by
  unfold bodsB at h
  rw [Bool.and_eq_true] at h
  have h2 : bodyB (fun j => U (k * 12 + j)) = true := by
    have key : ∀ m, allBB U m = true → k < m → stepBB U k = true := by
      intro m
      induction m with
      | zero => intro _ l; omega
      | succ m ih =>
        intro hm l
        unfold allBB at hm
        rw [Bool.and_eq_true] at hm
        by_cases e : k = m
        · subst e; exact hm.2
        · exact ih hm.1 (by omega)
    have := key n h.2 l
    unfold stepBB at this
    rw [Bool.and_eq_true] at this
    exact this.1
  unfold bodyB at h2
  simp only [Bool.and_eq_true] at h2
  exact ⟨h2.2.1, h2.2.2.1⟩
theorem flat5 (w : World) (p q r s u : Int) (t : TypeId) : Flat (w.alloc (Obj.cells #[.int .i64 p, .int .i64 q, .int .i64 r, .int .i64 s, .int .i64 u] t)) (some ⟨w.heap.size, 0, none⟩) (1 * 5) (ofL [p, q, r, s, u]) := by
  intro _
  refine ⟨w.heap.size, 0, rfl, by simp, fun j hj => ?_⟩
  rw [Nat.zero_add]
  rcases (show j = 0 ∨ j = 1 ∨ j = 2 ∨ j = 3 ∨ j = 4 by omega) with rfl | rfl | rfl | rfl | rfl <;> (simp only [ofL]; go_simp; (try rfl))

set_option maxRecDepth 20000 in
set_option maxHeartbeats 8000000 in
theorem l7Contacts_any (a : Option Addr) (n c : Nat) (U : Nat → Int) (w : World) (h : Flat w a (n * 12) U) (hok : bodsB n U = true) (hn : n ≤ 12) :
    Calls Tryz.prog 14 #[.slice a n c] w fun e w' => ∃ a' m c', e = .returned (.slice a' m c') ∧ (conL (colOf U) n).length = m * 5 ∧ OutL w w' 40 5 a' m c' (ofL (conL (colOf U) n)) := by
  have hset := cset_map
  go_enter Tryz.func14, Tryz.ntmps14
  go_wp2
  go_loopw [3, 4, 5, 6, 7] (fun s3 s4 _ _ _ wr => ∃ i a' m c', i ≤ n ∧ s4 = .int .i64 (i : Int) ∧ s3 = .slice a' m c' ∧ LsV w wr 40 5 a' m c' (conOut (colOf U) n i)) (fun _ s4 _ _ _ _ => n - (intOf s4).toNat)
  case atStart => exact ⟨0, _, _, _, Nat.zero_le _, rfl, rfl, LsV.new w _ _⟩
  case round =>
    obtain ⟨i, a', m, c', hi, rfl, rfl, hL⟩ := hrel
    by_cases hlt : i < n
    · have hin : (i : Int) < (n : Int) := by omega
      obtain ⟨b, o, rfl, hbl, hc⟩ := h (by omega)
      obtain ⟨si, qi⟩ := bods_sh hok hlt
      obtain ⟨mm, hm1, hm2⟩ := conOut_len (colOf U) n i
      have hm6 : i * n ≤ 12 * 12 := Nat.mul_le_mul (by omega) hn
      go_wp2
      go_loopw [3, 5, 6, 7] (fun s3 s5 _ _ wr => ∃ k a' m c', i < k ∧ k ≤ n ∧ s5 = .int .i64 (k : Int) ∧ s3 = .slice a' m c' ∧ LsV w wr 40 5 a' m c' (conOut (colOf U) n i ++ conIn (colOf U) i k)) (fun _ s5 _ _ _ => n - (intOf s5).toNat)
      case atStart => exact ⟨i + 1, _, _, _, by omega, by omega, by go_num, rfl, by rw [conIn_ge i (i + 1) (Nat.le_refl _), List.append_nil]; exact hL⟩
      case round =>
        clear hL
        obtain ⟨k, a2, m2, c2, hik, hk, rfl, rfl, hL⟩ := hrel
        by_cases hlk : k < n
        · have hkn : (k : Int) < (n : Int) := by omega
          obtain ⟨sk, qk⟩ := bods_sh hok hlk
          obtain ⟨mk, hm3, hm4⟩ := conIn_len (colOf U) i k
          have hm5 := hL.len
          rw [List.length_append, hm1, hm3] at hm5
          have hc' : ∀ q, q < n * 12 → wr.cell? ⟨b, o + q, none⟩ = some (.int .i64 (U q)) := fun q hq => (hL.bel.cell (p := ⟨b, o + q, none⟩) hbl).trans (hc q hq)
          have hzr := hL.bel.size
          have ci1 := hc' (i * 12 + 1) (by omega)
          have ck1 := hc' (k * 12 + 1) (by omega)
          have ci2 := hc' (i * 12 + 2) (by omega)
          have ck2 := hc' (k * 12 + 2) (by omega)
          have ci3 := hc' (i * 12 + 3) (by omega)
          have ck3 := hc' (k * 12 + 3) (by omega)
          have ci4 := hc' (i * 12 + 4) (by omega)
          have ck4 := hc' (k * 12 + 4) (by omega)
          have ci5 := hc' (i * 12 + 5) (by omega)
          have ck5 := hc' (k * 12 + 5) (by omega)
          have ci8 := hc' (i * 12 + 8) (by omega)
          have ck8 := hc' (k * 12 + 8) (by omega)
          simp only [← Nat.add_assoc] at ci1 ck1 ci2 ck2 ci3 ck3 ci4 ck4 ci5 ck5 ci8 ck8
          clear hc'
          by_cases hfx : U (i * 12 + 8) = 0 ∧ U (k * 12 + 8) = 0
          · obtain ⟨f1, f2⟩ := hfx
            have hno : Shut (conOne (colOf U) i k = []) := conOne_no (by unfold conB colOf; rw [f1, f2]; simp)
            rw [f1] at ci8
            rw [f2] at ck8
            go_wp2
            go_roundw
            case rel => exact ⟨k + 1, _, _, _, by omega, by omega, by go_num, rfl, by rw [conIn, hno.out, List.append_nil]; exact hL⟩
            case measure => simp [intOf]; omega
          · obtain ⟨TX, TY, TD, TJ, hT⟩ : ∃ TX TY TD TJ, tcH (colOf U) i k = ((TX, TY, TD), TJ) := ⟨_, _, _, _, rfl⟩
            have hfx' : Shut (¬ (U (i * 12 + 8) = 0 ∧ U (k * 12 + 8) = 0)) := hfx
            have key : ∀ (g : Prop), (U (i * 12 + 8) ≠ 0 → g) → (U (i * 12 + 8) = 0 → U (k * 12 + 8) ≠ 0 → g) → g := fun g h1 h2 => by
              by_cases e : U (i * 12 + 8) = 0
              · exact h2 e (fun e2 => hfx ⟨e, e2⟩)
              · exact h1 e
            clear hfx
            go_upto_region 8 with fail
            go_cut [36] (fun s wc => s = .bool false ∧ wr = wc)
            case first =>
              refine key _ (fun e => ?_) (fun e1 e2 => ?_)
              · have e' : decide (U (i * 12 + 8) = 0) = false := decide_eq_false e
                have e3 : (U (i * 12 + 8) == 0) = false := by simp [e]
                go_wp2
                go_meet
                exact ⟨by first | rfl | simp [e3], rfl⟩
              · have e' : decide (U (k * 12 + 8) = 0) = false := decide_eq_false e2
                have e3 : (U (k * 12 + 8) == 0) = false := by simp [e2]
                rw [e1] at ci8
                go_wp2
                go_meet
                exact ⟨by first | rfl | simp [e3], rfl⟩
            case rest =>
            obtain ⟨rfl, rfl⟩ := hcut
            clear key ci8 ck8
            go_upto_region 9 with fail
            go_cut [6, 7] (fun s6 s7 wd => ∃ bh, s6 = .pointer (some ⟨bh, 0, none⟩) ∧ s7 = .bool TJ ∧ wd.cell? ⟨bh, 0, none⟩ = some (.int .i64 TX) ∧ wd.cell? ⟨bh, 1, none⟩ = some (.int .i64 TY) ∧ wd.cell? ⟨bh, 2, none⟩ = some (.int .i64 TD) ∧ bh < wd.heap.size ∧ wr.heap.size ≤ bh ∧ Below wr.heap.size wr wd)
            case first =>
              refine wp_region_held_drew (S := fun w' => w'.cell? ⟨b, o + i * 12 + 1, none⟩ = some (.int .i64 (U (i * 12 + 1))) ∧ w'.cell? ⟨b, o + i * 12 + 2, none⟩ = some (.int .i64 (U (i * 12 + 2))) ∧ w'.cell? ⟨b, o + i * 12 + 3, none⟩ = some (.int .i64 (U (i * 12 + 3))) ∧ w'.cell? ⟨b, o + i * 12 + 4, none⟩ = some (.int .i64 (U (i * 12 + 4))) ∧ w'.cell? ⟨b, o + i * 12 + 5, none⟩ = some (.int .i64 (U (i * 12 + 5))) ∧ w'.cell? ⟨b, o + k * 12 + 1, none⟩ = some (.int .i64 (U (k * 12 + 1))) ∧ w'.cell? ⟨b, o + k * 12 + 2, none⟩ = some (.int .i64 (U (k * 12 + 2))) ∧ w'.cell? ⟨b, o + k * 12 + 3, none⟩ = some (.int .i64 (U (k * 12 + 3))) ∧ w'.cell? ⟨b, o + k * 12 + 4, none⟩ = some (.int .i64 (U (k * 12 + 4))) ∧ w'.cell? ⟨b, o + k * 12 + 5, none⟩ = some (.int .i64 (U (k * 12 + 5)))) (by kernel_rfl) ?_ (fun hHeld => ?_)
              · (try dsimp only)
                (first | (go_simp; done) | (go_keep; done))
              refine tq 0 hHeld ?_
              refine tq 1 hHeld ?_
              refine tq 2 hHeld ?_
              refine tq 3 hHeld ?_
              refine tq 4 hHeld ?_
              refine tq 5 hHeld ?_
              refine tq 6 hHeld ?_
              refine tq 7 hHeld ?_
              refine tq 8 hHeld ?_
              refine tq 9 hHeld ?_
              refine tq 10 hHeld ?_
              refine tq 11 hHeld ?_
              refine tq 12 hHeld ?_
              refine tq 13 hHeld ?_
              refine tq 14 hHeld ?_
              refine tq 15 hHeld ?_
              refine tq 16 hHeld ?_
              refine tq 17 hHeld ?_
              refine tq 18 hHeld ?_
              refine tq 19 hHeld ?_
              refine wpAnyH_ready (rs := [20, 24]) (by kernel_rfl) (by simp) ?_
              refine AllReadyH.cons rfl (fun K hK => ?_) (AllReadyH.cons rfl (fun K hK => ?_) AllReadyH.nil)
              · (go_simp; (go_at_call 28; refine (l5Touch_q _ _ _ _ _ _ _ _ _ _ TX TY TD TJ _ si sk qi qk hT).mono ?_; rintro e w3 ⟨rfl, hb3⟩; obtain ⟨hc3, hf3⟩ := bcell hb3; have hz3 := hb3.size; (try simp only [World.size_drew, World.size_alloc, World.size_setCell] at hc3 hf3 hz3); have hk3x0 := fun o => hc3 (b) o (by omega); have hj3x0 := fun o => hf3 (b) o (by omega); have hq3x0 : b < w3.heap.size := (by omega); clear hc3 hf3; have hk3z := fun o => hb3.cell (p := ⟨wr.heap.size, o, none⟩); have hj3z := fun o => hb3.frozen (p := ⟨wr.heap.size, o, none⟩); (try simp only [World.size_drew, World.size_alloc] at hk3z hj3z)); (try go_wp2_with fail); refine tr hK (fun hHeld => ?_); clear hK K)
                refine tq 21 hHeld ?_
                refine tq 22 hHeld ?_
                refine tq 23 hHeld ?_
                refine tc 24 fun K hK => ?_
                (go_simp; refine tr hK (fun hHeld => ?_); clear hK K)
                refine tc 25 fun K hK => ?_
                (go_simp; refine tr hK (fun hHeld => ?_); clear hK K)
                refine tq 26 hHeld ?_
                refine wpAnyH_done (by kernel_rfl) ?_ _
                go_wp2_with fail
                go_meet
                exact ⟨_, rfl, rfl, by go_simp, by go_simp, by go_simp, by first | (simp; omega) | simp | omega, by first | (simp; omega) | simp | omega, bel_a⟩
              · (go_simp; refine tr hK (fun hHeld => ?_); clear hK K)
                refine tc 20 fun K hK => ?_
                (go_simp; (go_at_call 28; refine (l5Touch_q _ _ _ _ _ _ _ _ _ _ TX TY TD TJ _ si sk qi qk hT).mono ?_; rintro e w3 ⟨rfl, hb3⟩; obtain ⟨hc3, hf3⟩ := bcell hb3; have hz3 := hb3.size; (try simp only [World.size_drew, World.size_alloc, World.size_setCell] at hc3 hf3 hz3); have hk3x0 := fun o => hc3 (b) o (by omega); have hj3x0 := fun o => hf3 (b) o (by omega); have hq3x0 : b < w3.heap.size := (by omega); clear hc3 hf3; have hk3z := fun o => hb3.cell (p := ⟨wr.heap.size, o, none⟩); have hj3z := fun o => hb3.frozen (p := ⟨wr.heap.size, o, none⟩); (try simp only [World.size_drew, World.size_alloc] at hk3z hj3z)); (try go_wp2_with fail); refine tr hK (fun hHeld => ?_); clear hK K)
                refine tq 21 hHeld ?_
                refine tq 22 hHeld ?_
                refine tq 23 hHeld ?_
                refine tc 25 fun K hK => ?_
                (go_simp; refine tr hK (fun hHeld => ?_); clear hK K)
                refine tq 26 hHeld ?_
                refine wpAnyH_done (by kernel_rfl) ?_ _
                go_wp2_with fail
                go_meet
                exact ⟨_, rfl, rfl, by go_simp, by go_simp, by go_simp, by first | (simp; omega) | simp | omega, by first | (simp; omega) | simp | omega, bel_a⟩
            case rest =>
            obtain ⟨bh, rfl, rfl, t0, t1, t2, hbh, hbh0, hbd⟩ := hcut
            have hLd := hL.below hbd
            cases TJ with
            | false =>
              have hno : Shut (conOne (colOf U) i k = []) := conOne_no (by unfold conB; rw [hT]; simp)
              go_wp2
              go_roundw
              case rel => exact ⟨k + 1, _, _, _, by omega, by omega, by go_num, rfl, by rw [conIn, hno.out, List.append_nil]; exact hLd⟩
              case measure => simp [intOf]; omega
            | true =>
              have hyes : Shut (conOne (colOf U) i k = [(i : Int), (k : Int), TX, TY, TD]) := conOne_yes (conB_yes hik hfx'.out hT) hT
              go_wp2_with (refine wpList_app rfl _ _ _ rfl w.heap.size 40 5 40 (.agg #[.int .i64 0, .int .i64 0, .int .i64 0, .int .i64 0, .int .i64 0]) Tryz.underlying25 (by kernel_rfl) (by rfl) (by omega) (.slice a2 m2 c2) m2 (ofL (conOut (colOf U) n i ++ conIn (colOf U) i k)) rfl (hLd.below ((Below.refl _ _).alloc (Nat.le_refl _) _)).own _ 1 _ (ofL [(i : Int), (k : Int), TX, TY, TD]) rfl (flat5 _ _ _ _ _ _ _) (by unfold maxLen; omega) (by omega) (by simp only [World.size_alloc]; have := hLd.bel.size; omega) ?_; intro a1 c1 w1 ho1 hg1)
              have hP := (hLd.below ((Below.refl _ _).alloc (Nat.le_refl _) _)).push (x := [(i : Int), (k : Int), TX, TY, TD]) rfl hg1 ho1
              go_roundw
              case rel => exact ⟨k + 1, _, _, _, by omega, by omega, by go_num, rfl, by rw [conIn, hyes.out, ← List.append_assoc]; exact hP⟩
              case measure => simp [intOf]; omega
        · obtain rfl : k = n := by omega
          go_wp2
          go_roundw
          case rel => exact ⟨i + 1, _, _, _, by omega, by go_num, rfl, hL⟩
          case measure => simp [intOf]; omega
    · obtain rfl : i = n := by omega
      go_wp2
      go_ret
      exact ⟨_, _, _, rfl, hL.len, hL.bel, hL.own⟩
end Go.Proofs.YtkblddegfobpaaaGreat
