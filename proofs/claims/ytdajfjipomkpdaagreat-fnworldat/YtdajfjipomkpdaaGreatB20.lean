/- Texts of a proof. -/
import Derived.Test.YtdajfjipomkpdaaGreatB19
import Derived.Deep.RegionHeld3
import Derived.Deep.DeepCutAuto
import Derived.Test.YtdajfjipomkpdaaGreatB14
import Derived.Test.YtdajfjipomkpdaaGreatB6
import Derived.Test.YtdajfjipomkpdaaGreatRows
import Derived.WalkKit
import Derived.JoinedOf
import Derived.ProofKit
namespace Go.Proofs.YtdajfjipomkpdaaGreat
open Go.RowKit
set_option linter.unusedVariables false
set_option linter.unusedSimpArgs false
def rsP (x y u v k g h p q : Int) : Int × Bool := if (rayB x y u v && (shB k g h && inB 2560000 p q)) = true then (if k = 1 then rrF (rhB x y u v p q g) 257 0 else (rsF x y u v (p - g) (q - h) (p + g) (q + h), rsK x y u v (p - g) (q - h) (p + g) (q + h))) else (0, false)
def rsAt (x y u v : Int) (U : Nat → Int) (k : Nat) : Int × Bool := rsP x y u v (U (k * 12 + 1)) (U (k * 12 + 2)) (U (k * 12 + 3)) (U (k * 12 + 4)) (U (k * 12 + 5))
def rayN (x y u v : Int) (U : Nat → Int) : Nat → Int × Int
  | 0 => (-1, 0)
  | k + 1 => if (rsAt x y u v U k).2 = true ∧ ((rayN x y u v U k).1 < 0 ∨ (rsAt x y u v U k).1 < (rayN x y u v U k).2) then (U (k * 12), (rsAt x y u v U k).1) else rayN x y u v U k
def rayA (T P : Int) (n : Nat) (U : Nat → Int) (m : Nat) (Q : Nat → Int) (x y u v : Int) : Int × Int := bif worldB T P n U m Q then rayN x y u v U n else (-1, 0)
structure RyR (w : World) (T P : Int) (a : Option Addr) (n c : Nat) (a' : Option Addr) (m c' : Nat) (x y u v : Int) (wr : World) : Prop where
  wd : WdR w T P a n c a' m c' wr
  big : w.heap.size + 1 < wr.heap.size
  r0 : wr.cell? ⟨w.heap.size + 1, 0, none⟩ = some (.int .i64 x)
  r1 : wr.cell? ⟨w.heap.size + 1, 1, none⟩ = some (.int .i64 y)
  r2 : wr.cell? ⟨w.heap.size + 1, 2, none⟩ = some (.int .i64 u)
  r3 : wr.cell? ⟨w.heap.size + 1, 3, none⟩ = some (.int .i64 v)
theorem RyR.on {w wr w' : World} {T P x y u v : Int} {a a' : Option Addr} {n c m c' : Nat} (h : RyR w T P a n c a' m c' x y u v wr) (hb : Below wr.heap.size wr w') : RyR w T P a n c a' m c' x y u v w' :=
  ⟨h.wd.on hb, Nat.lt_of_lt_of_le h.big hb.size, (hb.cell (p := ⟨w.heap.size + 1, 0, none⟩) h.big).trans h.r0, (hb.cell (p := ⟨w.heap.size + 1, 1, none⟩) h.big).trans h.r1, (hb.cell (p := ⟨w.heap.size + 1, 2, none⟩) h.big).trans h.r2, (hb.cell (p := ⟨w.heap.size + 1, 3, none⟩) h.big).trans h.r3⟩
end Go.Proofs.YtdajfjipomkpdaaGreat
namespace Go.Proofs.YtdajfjipomkpdaaGreat
open Go.RowKit
set_option linter.unusedVariables false
theorem shB_two {k g h : Int} (e : shB k g h = true) : (k = 1 ∧ h = 0 ∧ 1 ≤ g ∧ g ≤ 25600) ∨ (k = 2 ∧ 1 ≤ g ∧ g ≤ 25600 ∧ 1 ≤ h ∧ h ≤ 25600) := by
  unfold shB rdB bxB at e; simp only [Bool.or_eq_true, decide_eq_true_eq] at e; omega
end Go.Proofs.YtdajfjipomkpdaaGreat
namespace Go.Proofs.YtdajfjipomkpdaaGreat
open Go.RowKit
set_option linter.unusedVariables false
set_option linter.unusedSimpArgs false
structure VcR (w : World) (T P : Int) (a : Option Addr) (n c : Nat) (a' : Option Addr) (m c' : Nat) (x y : Int) (wr : World) : Prop where
  wd : WdR w T P a n c a' m c' wr
  big : w.heap.size + 1 < wr.heap.size
  r0 : wr.cell? ⟨w.heap.size + 1, 0, none⟩ = some (.int .i64 x)
  r1 : wr.cell? ⟨w.heap.size + 1, 1, none⟩ = some (.int .i64 y)
theorem VcR.on {w wr w' : World} {T P x y : Int} {a a' : Option Addr} {n c m c' : Nat} (h : VcR w T P a n c a' m c' x y wr) (hb : Below wr.heap.size wr w') : VcR w T P a n c a' m c' x y w' :=
  ⟨h.wd.on hb, Nat.lt_of_lt_of_le h.big hb.size, (hb.cell (p := ⟨w.heap.size + 1, 0, none⟩) h.big).trans h.r0, (hb.cell (p := ⟨w.heap.size + 1, 1, none⟩) h.big).trans h.r1⟩
theorem VcR.startB (w : World) (T P : Int) (x y : Int) (a a' : Option Addr) (n c m c' : Nat) : VcR w T P a n c a' m c' x y ((w.alloc (Obj.cells #[.int .i64 T, .int .i64 P, .slice a n c, .slice a' m c'] 26)).alloc (Obj.cells #[.int .i64 x, .int .i64 y] 28)) :=
  ⟨⟨((Below.refl _ _).alloc (Nat.le_refl _) _).alloc (by simp) _, by simp; omega, by go_simp, by go_simp, by go_simp, by go_simp⟩, by simp, by go_simp, by go_simp⟩
theorem OutL.under {w0 w w' : World} {t k : Nat} {a : Option Addr} {n c : Nat} {R : Nat → Int} (h : OutL w w' t k a n c R) (hb : Below w0.heap.size w0 w) : OutL w0 w' t k a n c R := ⟨hb.trans (h.bel.mono hb.size), h.own.base hb.size⟩
set_option maxRecDepth 20000 in
set_option maxHeartbeats 8000000 in
theorem worldAt_q (T P : Int) (a : Option Addr) (n c : Nat) (U : Nat → Int) (a' : Option Addr) (m c' : Nat) (Q : Nat → Int) (x y : Int) (w : World) (h : Flat w a (n * 12) U) (h' : Flat w a' (m * 2) Q) (hn : n ≤ 1048576) (hm : m ≤ 1048576) :
    Calls Tryz.prog 14 #[worldW T P a n c a' m c', vv x y] w fun e w' => ∃ a0 N c0, e = .returned (.slice a0 N c0) ∧ (idsA T P n U m Q (hasAt x y U)).length = N * 1 ∧ OutL w w' 3 1 a0 N c0 (ofL (idsA T P n U m Q (hasAt x y U))) := by
  have hset := cset_map
  have hS := VcR.startB w T P x y a a' n c m c'
  go_enter Tryz.func14, Tryz.ntmps14
  go_wp2_with (go_at_call 21; refine (idsAt_q T P a n c U a' m c' Q (w.heap.size + 1) x y _ (h.below hS.wd.bel) (h'.below hS.wd.bel) hn hm hS.r0 hS.r1 hS.big).mono ?_; rintro e w2 ⟨a0, N, c0, rfl, hN, hO⟩)
  go_ret
  exact ⟨_, _, _, rfl, hN, hO.under hS.wd.bel⟩
theorem bods_of_world {T P : Int} {n m : Nat} {U Q : Nat → Int} (h : worldB T P n U m Q = true) : bodsB n U = true := by
  unfold worldB at h
  simp only [Bool.and_eq_true] at h
  exact h.2.2.1
theorem hasAt_no {x y : Int} {U : Nat → Int} (h : inB 2560000 x y = false) (k : Nat) : hasAt x y U k = false := by unfold hasAt shV; rw [h]; simp
theorem l3Has_k (k g h x y u v : Int) (b : Bool) (w : World) (s : shB k g h = true) (p : inB 2560000 x y = true) (q : inB 2560000 u v = true) (e : shV k g h x y u v = b) :
    Calls Tryz.prog 42 #[s3 k g h, vv x y, vv u v] w fun e w' => e = .returned (.bool b) ∧ Below w.heap.size w w' := by
  unfold shV at e
  rw [s, p, q] at e
  simp only [Bool.true_and] at e
  have hp := inB_of p
  have hq := inB_of q
  rcases shB_two s with ⟨rfl, rfl, a1, a2⟩ | ⟨rfl, a1, a2, a3, a4⟩
  · rw [← hasV_r] at e; subst e; exact l3Has_r g x y u v w a1 a2 hp.1 hp.2 (by omega) (by omega)
  · unfold hasV at e; rw [if_pos rfl] at e; subst e; exact l3Has_b g h x y u v w a1 a2 a3 a4 hp.1 hp.2 (by omega) (by omega)
set_option maxRecDepth 20000 in
set_option maxHeartbeats 8000000 in
theorem sWorldAt_q (T P : Int) (a : Option Addr) (n c : Nat) (U : Nat → Int) (a' : Option Addr) (m c' : Nat) (Q : Nat → Int) (x y : Int) (w : World) (h : Flat w a (n * 12) U) (h' : Flat w a' (m * 2) Q) (hn : n ≤ 1048576) (hm : m ≤ 1048576) :
    Calls Tryz.prog 15 #[worldW T P a n c a' m c', vv x y] w fun e w' => ∃ a0 N c0, e = .returned (.slice a0 N c0) ∧ (idsA T P n U m Q (hasAt x y U)).length = N * 1 ∧ OutL w w' 3 1 a0 N c0 (ofL (idsA T P n U m Q (hasAt x y U))) := by
  have hset := cset_map
  have hS := VcR.startB w T P x y a a' n c m c'
  have hN := LsV.newAt ((w.alloc (Obj.cells #[.int .i64 T, .int .i64 P, .slice a n c, .slice a' m c'] 26)).alloc (Obj.cells #[.int .i64 x, .int .i64 y] 28)) 3 1 (w.heap.size + 1 + 1) (by simp)
  have hE := hN.bel
  cases hok : worldB T P n U m Q with
  | false =>
    unfold idsA
    rw [hok, cond_false]
    go_enter Tryz.func15, Tryz.ntmps15
    go_wp2_with (go_at_call 9; refine (sWorldOk_q T P a n c U a' m c' Q _ (h.below (hS.on hE).wd.bel) (h'.below (hS.on hE).wd.bel) hn hm false hok).mono ?_; rintro e w1 ⟨rfl, hb1⟩; have hB0 := (hS.on hE).on hb1; have r0 := hB0.r0; have r1 := hB0.r1)
    go_ret
    exact ⟨_, _, _, rfl, by simp, (hN.below hb1).out hS.wd.bel⟩
  | true =>
    unfold idsA
    rw [hok]
    cases hck : inB 2560000 x y with
    | false =>
      rw [cond_true, idL_none (hasAt_no hck)]
      go_enter Tryz.func15, Tryz.ntmps15
      go_wp2_with (first
        | (go_at_call 9; refine (sWorldOk_q T P a n c U a' m c' Q _ (h.below (hS.on hE).wd.bel) (h'.below (hS.on hE).wd.bel) hn hm true hok).mono ?_; rintro e w1 ⟨rfl, hb1⟩; have hB0 := (hS.on hE).on hb1; have r0 := hB0.r0; have r1 := hB0.r1)
        | (go_at_call 41; refine (l3Place_q _ _ _ _ hck).mono ?_; rintro e w3 ⟨rfl, hb3⟩))
      go_ret
      exact ⟨_, _, _, rfl, by simp, ((hN.below hb1).below hb3).out hS.wd.bel⟩
    | true =>
      go_enter Tryz.func15, Tryz.ntmps15
      go_upto_region 4 with (first
        | (go_at_call 9; refine (sWorldOk_q T P a n c U a' m c' Q _ (h.below (hS.on hE).wd.bel) (h'.below (hS.on hE).wd.bel) hn hm true hok).mono ?_; rintro e w1 ⟨rfl, hb1⟩; have hB0 := (hS.on hE).on hb1; have r0 := hB0.r0; have r1 := hB0.r1)
        | (go_at_call 41; refine (l3Place_q _ _ _ _ hck).mono ?_; rintro e w3 ⟨rfl, hb3⟩))
      have hL0 := (hN.below hb1).below hb3
      clear hb1 hb3 hB0 r0 r1 hE hN
      have hwb := bods_of_world hok
      generalize ((w.alloc (Obj.cells #[.int .i64 T, .int .i64 P, .slice a n c, .slice a' m c'] 26)).alloc (Obj.cells #[.int .i64 x, .int .i64 y] 28)) = wb at hS hL0 ⊢
      go_wp2
      go_loopw [5, 6] (fun s5 s wr => ∃ (k : Nat) (aL : Option Addr) (mL cL : Nat), k ≤ n ∧ s = .int .i64 (k : Int) ∧ s5 = .slice aL mL cL ∧ LsV wb wr 3 1 aL mL cL (idL (hasAt x y U) U k)) (fun _ s _ => n - (intOf s).toNat)
      case atStart => exact ⟨0, _, _, _, Nat.zero_le _, rfl, rfl, hL0⟩
      case round =>
        clear hL0
        obtain ⟨k, aL, mL, cL, hk, rfl, rfl, hL⟩ := hrel
        have hB := hS.on hL.bel
        have hbig := hB.big
        have z2 := hB.wd.c2
        by_cases hlt : k < n
        · have hkn : (k : Int) < (n : Int) := by omega
          obtain ⟨hs1, hs2⟩ := bods_sh hwb hlt
          obtain ⟨b, o, rfl, hbl, hc⟩ := (h.below hB.wd.bel) (by omega)
          have c0 := hc (k * 12) (by omega)
          have c1 := hc (k * 12 + 1) (by omega)
          have c2 := hc (k * 12 + 2) (by omega)
          have c3 := hc (k * 12 + 3) (by omega)
          have c4 := hc (k * 12 + 4) (by omega)
          have c5 := hc (k * 12 + 5) (by omega)
          simp only [← Nat.add_assoc] at c0 c1 c2 c3 c4 c5
          clear hc
          have r0 := hB.r0
          have r1 := hB.r1
          have hmk := hL.len
          have hmj := idL_len (hasAt x y U) U k
          obtain ⟨vb, hvp⟩ : ∃ vb, hasAt x y U k = vb := ⟨_, rfl⟩
          have hv := hvp
          unfold hasAt at hv
          go_upto_region 7 with fail
          go_cut [37] (fun s wd => s = .bool vb ∧ Below wr.heap.size wr wd)
          case first =>
            refine wp_region_held_drew (S := fun w' => w'.cell? ⟨w.heap.size + 1, 0, none⟩ = some (.int .i64 x) ∧ w'.cell? ⟨w.heap.size + 1, 1, none⟩ = some (.int .i64 y) ∧ w'.cell? ⟨w.heap.size, 2, none⟩ = some (.slice (some ⟨b, o, none⟩) n c) ∧ w'.cell? ⟨b, o + k * 12 + 1, none⟩ = some (.int .i64 (U (k * 12 + 1))) ∧ w'.cell? ⟨b, o + k * 12 + 2, none⟩ = some (.int .i64 (U (k * 12 + 2))) ∧ w'.cell? ⟨b, o + k * 12 + 3, none⟩ = some (.int .i64 (U (k * 12 + 3))) ∧ w'.cell? ⟨b, o + k * 12 + 4, none⟩ = some (.int .i64 (U (k * 12 + 4))) ∧ w'.cell? ⟨b, o + k * 12 + 5, none⟩ = some (.int .i64 (U (k * 12 + 5)))) (by kernel_rfl) ?_ (fun hHeld => ?_)
            · (try dsimp only)
              (first | (go_simp; done) | (go_keep; done))
            refine tq 0 hHeld ?_
            refine tq 1 hHeld ?_
            refine tq 2 hHeld ?_
            refine tq 3 hHeld ?_
            refine tq 4 hHeld ?_
            refine tq 5 hHeld ?_
            refine tq 6 hHeld ?_
            refine tq 7 hHeld ?_
            refine tq 8 hHeld ?_
            refine tq 9 hHeld ?_
            refine tq 10 hHeld ?_
            refine tq 11 hHeld ?_
            refine tq 12 hHeld ?_
            (refine tc 13 fun K hK => ?_; go_simp; (go_at_call 42; refine (l3Has_k _ _ _ _ _ _ _ vb _ hs1 hs2 hck hv).mono ?_; rintro e w14 ⟨rfl, hb14⟩; obtain ⟨hc14, hf14⟩ := bcell hb14; have hz14 := hb14.size; (try simp only [World.size_drew, World.size_alloc, World.size_setCell] at hc14 hf14 hz14); have hk14x0 := fun o => hc14 (w.heap.size) o (by omega); have hj14x0 := fun o => hf14 (w.heap.size) o (by omega); have hq14x0 : w.heap.size < w14.heap.size := (by omega); have hk14x1 := fun o => hc14 (w.heap.size + 1) o (by omega); have hj14x1 := fun o => hf14 (w.heap.size + 1) o (by omega); have hq14x1 : w.heap.size + 1 < w14.heap.size := (by omega); have hk14x2 := fun o => hc14 (b) o (by omega); have hj14x2 := fun o => hf14 (b) o (by omega); have hq14x2 : b < w14.heap.size := (by omega); clear hc14 hf14); (try go_wp2_with fail); refine tr hK (fun hHeld => ?_); clear hK K)
            refine wpAnyH_done (by kernel_rfl) ?_ _
            go_wp2_with fail
            go_meet
            exact ⟨rfl, bel_a⟩
          case rest =>
          obtain ⟨rfl, hbd⟩ := hcut
          have hL2 := hL.below hbd
          have hB2 := hB.on hbd
          have x0 := (hbd.cell (p := ⟨b, o + k * 12, none⟩) hbl).trans c0
          clear c0 c1 c2 c3 c4 c5 z2 r0 r1 hv hB hL
          have z2 := hB2.wd.c2
          have hbz := hL2.bel.size
          cases vb with
          | false =>
            go_wp2
            go_roundw
            case rel => exact ⟨k + 1, _, _, _, by omega, by go_num, rfl, by rw [idL_no hvp]; exact hL2⟩
            case measure => simp [intOf]; omega
          | true =>
            go_wp2_with (refine wpList_app rfl _ _ _ rfl wb.heap.size 3 1 8 (.int .i64 0) Tryz.underlying33 (by kernel_rfl) (by rfl) (by omega) (.slice aL mL cL) mL (ofL (idL (hasAt x y U) U k)) rfl (hL2.below ((Below.refl _ _).alloc (Nat.le_refl _) _)).own _ 1 _ (ofL [U (k * 12)]) rfl (flat1 _ _ _) (by unfold maxLen; omega) (by omega) (by simp only [World.size_alloc]; omega) ?_; intro a3 c3 w3 ho3 hg3)
            have hP := (hL2.below ((Below.refl _ _).alloc (Nat.le_refl _) _)).push (x := [U (k * 12)]) rfl hg3 ho3
            go_roundw
            case rel => exact ⟨k + 1, _, _, _, by omega, by go_num, rfl, by rw [idL_yes hvp]; exact hP⟩
            case measure => simp [intOf]; omega
        · obtain rfl : k = n := by omega
          go_wp2
          go_ret
          exact ⟨_, _, _, rfl, hL.len, hL.out hS.wd.bel⟩
set_option maxRecDepth 20000 in
set_option maxHeartbeats 8000000 in
theorem clIn_q (k fb : Nat) (U : Nat → Int) (x y u v : Int) (b : Bool) (w : World) (g0 : w.cell? ⟨fb, 0, none⟩ = some (.int .i64 x)) (g1 : w.cell? ⟨fb, 1, none⟩ = some (.int .i64 y)) (g2 : w.cell? ⟨fb, 2, none⟩ = some (.int .i64 u)) (g3 : w.cell? ⟨fb, 3, none⟩ = some (.int .i64 v)) (gl : fb < w.heap.size) (e : meetAt x y u v U k = b) :
    Calls Tryz.prog 22 #[.agg #[.int .i64 (U (k * 12)), .int .i64 (U (k * 12 + 1)), .int .i64 (U (k * 12 + 2)), .int .i64 (U (k * 12 + 3)), .int .i64 (U (k * 12 + 4)), .int .i64 (U (k * 12 + 5)), .int .i64 (U (k * 12 + 6)), .int .i64 (U (k * 12 + 7)), .int .i64 (U (k * 12 + 8)), .int .i64 (U (k * 12 + 9)), .int .i64 (U (k * 12 + 10)), .int .i64 (U (k * 12 + 11))], .pointer (some ⟨fb, 0, none⟩)] w fun e w' => e = .returned (.bool b) ∧ Below w.heap.size w w' := by
  have hset := cset_map
  go_enter Tryz.func22, Tryz.ntmps22
  go_upto_region 1 with fail
  refine wp_region_held_drew (S := fun w' => w'.cell? ⟨fb, 0, none⟩ = some (.int .i64 x) ∧ w'.cell? ⟨fb, 1, none⟩ = some (.int .i64 y) ∧ w'.cell? ⟨fb, 2, none⟩ = some (.int .i64 u) ∧ w'.cell? ⟨fb, 3, none⟩ = some (.int .i64 v) ∧ w'.cell? ⟨w.heap.size, 0, none⟩ = some (.int .i64 (U (k * 12))) ∧ w'.cell? ⟨w.heap.size, 1, none⟩ = some (.int .i64 (U (k * 12 + 1))) ∧ w'.cell? ⟨w.heap.size, 2, none⟩ = some (.int .i64 (U (k * 12 + 2))) ∧ w'.cell? ⟨w.heap.size, 3, none⟩ = some (.int .i64 (U (k * 12 + 3))) ∧ w'.cell? ⟨w.heap.size, 4, none⟩ = some (.int .i64 (U (k * 12 + 4))) ∧ w'.cell? ⟨w.heap.size, 5, none⟩ = some (.int .i64 (U (k * 12 + 5)))) (by kernel_rfl) ?_ (fun hHeld => ?_)
  · (try dsimp only)
    (first | (go_simp; done) | (go_keep; done))
  refine tq 0 hHeld ?_
  refine tq 1 hHeld ?_
  refine tq 2 hHeld ?_
  refine tq 3 hHeld ?_
  refine tq 5 hHeld ?_
  (refine tc 4 fun K hK => ?_; go_simp; (go_at_call 12; refine (shapeBounds_any _ _ _ _ _ _).mono ?_; rintro e w4 ⟨rfl, hb4⟩; obtain ⟨hc4, hf4⟩ := bcell hb4; have hz4 := hb4.size; (try simp only [World.size_drew, World.size_alloc, World.size_setCell] at hc4 hf4 hz4); have hk4x0 := fun o => hc4 (w.heap.size) o (by omega); have hj4x0 := fun o => hf4 (w.heap.size) o (by omega); have hq4x0 : w.heap.size < w4.heap.size := (by omega); have hk4x1 := fun o => hc4 (fb) o (by omega); have hj4x1 := fun o => hf4 (fb) o (by omega); have hq4x1 : fb < w4.heap.size := (by omega); clear hc4 hf4); (try go_wp2_with fail); refine tr hK (fun hHeld => ?_); clear hK K)
  (refine tc 6 fun K hK => ?_; go_simp; (go_at_call 11; refine (boxMeets_q _ _ _ _ _ _ _ _ b _ e).mono ?_; rintro e w5 ⟨rfl, hb5⟩; obtain ⟨hc5, hf5⟩ := bcell hb5; have hz5 := hb5.size; (try simp only [World.size_drew, World.size_alloc, World.size_setCell] at hc5 hf5 hz5); have hk5x0 := fun o => hc5 (w.heap.size) o (by omega); have hj5x0 := fun o => hf5 (w.heap.size) o (by omega); have hq5x0 : w.heap.size < w5.heap.size := (by omega); have hk5x1 := fun o => hc5 (fb) o (by omega); have hj5x1 := fun o => hf5 (fb) o (by omega); have hq5x1 : fb < w5.heap.size := (by omega); clear hc5 hf5); (try go_wp2_with fail); refine tr hK (fun hHeld => ?_); clear hK K)
  refine tq 7 hHeld ?_
  refine wpAnyH_done (by kernel_rfl) ?_ _
  go_wp2_with fail
  go_ret
  exact ⟨rfl, bel_a⟩
set_option maxRecDepth 20000 in
set_option maxHeartbeats 8000000 in
theorem idsIn_q (T P : Int) (a : Option Addr) (n c : Nat) (U : Nat → Int) (a' : Option Addr) (m c' : Nat) (Q : Nat → Int) (fb : Nat) (x y u v : Int) (w : World) (h : Flat w a (n * 12) U) (h' : Flat w a' (m * 2) Q) (hn : n ≤ 1048576) (hm : m ≤ 1048576) (g0 : w.cell? ⟨fb, 0, none⟩ = some (.int .i64 x)) (g1 : w.cell? ⟨fb, 1, none⟩ = some (.int .i64 y)) (g2 : w.cell? ⟨fb, 2, none⟩ = some (.int .i64 u)) (g3 : w.cell? ⟨fb, 3, none⟩ = some (.int .i64 v)) (gl : fb < w.heap.size) :
    Calls Tryz.prog 21 #[worldW T P a n c a' m c', .func (.func 22) #[] #[.pointer (some ⟨fb, 0, none⟩)]] w fun e w' => ∃ a0 N c0, e = .returned (.slice a0 N c0) ∧ (idsA T P n U m Q (meetAt x y u v U)).length = N * 1 ∧ OutL w w' 3 1 a0 N c0 (ofL (idsA T P n U m Q (meetAt x y u v U))) := by
  have hset := cset_map
  have hS := WdR.start w T P a a' n c m c'
  cases hok : worldB T P n U m Q with
  | false =>
    unfold idsA
    rw [hok]
    go_enter Tryz.func21, Tryz.ntmps21
    go_wp2_with (go_at_call 50; refine (worldOk_q T P a n c U a' m c' Q _ (h.below hS.bel) (h'.below hS.bel) hn hm false hok).mono ?_; rintro e w1 ⟨rfl, hb1⟩)
    go_ret
    exact ⟨_, _, _, rfl, by simp, (hS.on hb1).bel, OwnL.nil _ _ _ _ _⟩
  | true =>
    unfold idsA
    rw [hok]
    have z2 := hS.c2
    go_enter Tryz.func21, Tryz.ntmps21
    go_upto_region 4 with (go_at_call 50; refine (worldOk_q T P a n c U a' m c' Q _ (h.below hS.bel) (h'.below hS.bel) hn hm true hok).mono ?_; rintro e w1 ⟨rfl, hb1⟩)
    have hB1 := hS.on hb1
    clear hb1 hS z2
    have z2 := hB1.c2
    go_wp2
    clear z2
    go_loopw [5, 7, 14] (fun s5 _ s wr => ∃ (k : Nat) (aL : Option Addr) (mL cL : Nat), k ≤ n ∧ s = .int .i64 (k : Int) ∧ s5 = .slice aL mL cL ∧ LsV w1 wr 3 1 aL mL cL (idL (meetAt x y u v U) U k)) (fun _ _ s _ => n - (intOf s).toNat)
    case atStart => exact ⟨0, _, _, _, Nat.zero_le _, rfl, rfl, LsV.nil _ _ _⟩
    case round =>
      obtain ⟨k, aL, mL, cL, hk, rfl, rfl, hL⟩ := hrel
      by_cases hlt : k < n
      · have hB := hB1.on hL.bel
        obtain ⟨b, o, rfl, hbl, hc⟩ := (h.below hB.bel) (by omega)
        have c0 := hc (k * 12) (by omega)
        have c1 := hc (k * 12 + 1) (by omega)
        have c2 := hc (k * 12 + 2) (by omega)
        have c3 := hc (k * 12 + 3) (by omega)
        have c4 := hc (k * 12 + 4) (by omega)
        have c5 := hc (k * 12 + 5) (by omega)
        have c6 := hc (k * 12 + 6) (by omega)
        have c7 := hc (k * 12 + 7) (by omega)
        have c8 := hc (k * 12 + 8) (by omega)
        have c9 := hc (k * 12 + 9) (by omega)
        have c10 := hc (k * 12 + 10) (by omega)
        have c11 := hc (k * 12 + 11) (by omega)
        simp only [← Nat.add_assoc] at c0 c1 c2 c3 c4 c5 c6 c7 c8 c9 c10 c11
        clear hc
        have hwl := hB.bel.size
        have d0 : wr.cell? ⟨fb, 0, none⟩ = some (.int .i64 x) := (hB.bel.cell (p := ⟨fb, 0, none⟩) gl).trans g0
        have d1 : wr.cell? ⟨fb, 1, none⟩ = some (.int .i64 y) := (hB.bel.cell (p := ⟨fb, 1, none⟩) gl).trans g1
        have d2 : wr.cell? ⟨fb, 2, none⟩ = some (.int .i64 u) := (hB.bel.cell (p := ⟨fb, 2, none⟩) gl).trans g2
        have d3 : wr.cell? ⟨fb, 3, none⟩ = some (.int .i64 v) := (hB.bel.cell (p := ⟨fb, 3, none⟩) gl).trans g3
        have hgl : fb < wr.heap.size := by omega
        have hmk := hL.len
        have hmj := idL_len (meetAt x y u v U) U k
        obtain ⟨vb, hv⟩ : ∃ vb, meetAt x y u v U k = vb := ⟨_, rfl⟩
        have hE : Below wr.heap.size wr (wr.alloc (Obj.cells #[.int .i64 (U (k * 12)), .int .i64 (U (k * 12 + 1)), .int .i64 (U (k * 12 + 2)), .int .i64 (U (k * 12 + 3)), .int .i64 (U (k * 12 + 4)), .int .i64 (U (k * 12 + 5)), .int .i64 (U (k * 12 + 6)), .int .i64 (U (k * 12 + 7)), .int .i64 (U (k * 12 + 8)), .int .i64 (U (k * 12 + 9)), .int .i64 (U (k * 12 + 10)), .int .i64 (U (k * 12 + 11))] 43)) := (Below.refl _ _).alloc (Nat.le_refl _) _
        cases vb with
        | false =>
          go_wp2_with (go_at_call 22; refine (clIn_q k fb U x y u v false _ (by go_simp) (by go_simp) (by go_simp) (by go_simp) (by simp; omega) hv).mono ?_; rintro e w2 ⟨rfl, hb2⟩)
          go_roundw
          case rel => exact ⟨k + 1, _, _, _, by omega, by go_num, rfl, by rw [idL_no hv]; exact (hL.below hE).below hb2⟩
          case measure => simp [intOf]; omega
        | true =>
          go_upto_region 8 with (go_at_call 22; refine (clIn_q k fb U x y u v true _ (by go_simp) (by go_simp) (by go_simp) (by go_simp) (by simp; omega) hv).mono ?_; rintro e w2 ⟨rfl, hb2⟩)
          have x0 : w2.cell? ⟨wr.heap.size, 0, none⟩ = some (.int .i64 (U (k * 12))) := (hb2.cell (p := ⟨wr.heap.size, 0, none⟩) (by simp)).trans (by go_simp)
          have hL2 := (hL.below hE).below hb2
          have hbz := hL2.bel.size
          go_wp2_with (refine wpList_app rfl _ _ _ rfl w1.heap.size 3 1 8 (.int .i64 0) Tryz.underlying33 (by kernel_rfl) (by rfl) (by omega) (.slice aL mL cL) mL (ofL (idL (meetAt x y u v U) U k)) rfl (hL2.below ((Below.refl _ _).alloc (Nat.le_refl _) _)).own _ 1 _ (ofL [U (k * 12)]) rfl (flat1 _ _ _) (by unfold maxLen; omega) (by omega) (by simp only [World.size_alloc]; omega) ?_; intro a3 c3 w3 ho3 hg3)
          have hP := (hL2.below ((Below.refl _ _).alloc (Nat.le_refl _) _)).push (x := [U (k * 12)]) rfl hg3 ho3
          go_roundw
          case rel => exact ⟨k + 1, _, _, _, by omega, by go_num, rfl, by rw [idL_yes hv]; exact hP⟩
          case measure => simp [intOf]; omega
      · obtain rfl : k = n := by omega
        go_wp2
        go_ret
        exact ⟨_, _, _, rfl, hL.len, hL.out hB1.bel⟩
theorem RyR.startB (w : World) (T P : Int) (x y u v : Int) (a a' : Option Addr) (n c m c' : Nat) : RyR w T P a n c a' m c' x y u v ((w.alloc (Obj.cells #[.int .i64 T, .int .i64 P, .slice a n c, .slice a' m c'] 26)).alloc (Obj.cells #[.int .i64 x, .int .i64 y, .int .i64 u, .int .i64 v] 30)) :=
  ⟨⟨((Below.refl _ _).alloc (Nat.le_refl _) _).alloc (by simp) _, by simp; omega, by go_simp, by go_simp, by go_simp, by go_simp⟩, by simp, by go_simp, by go_simp, by go_simp, by go_simp⟩
set_option maxRecDepth 20000 in
set_option maxHeartbeats 8000000 in
theorem worldIn_q (T P : Int) (a : Option Addr) (n c : Nat) (U : Nat → Int) (a' : Option Addr) (m c' : Nat) (Q : Nat → Int) (x y u v : Int) (w : World) (h : Flat w a (n * 12) U) (h' : Flat w a' (m * 2) Q) (hn : n ≤ 1048576) (hm : m ≤ 1048576) :
    Calls Tryz.prog 6 #[worldW T P a n c a' m c', b4 x y u v] w fun e w' => ∃ a0 N c0, e = .returned (.slice a0 N c0) ∧ (idsA T P n U m Q (meetAt x y u v U)).length = N * 1 ∧ OutL w w' 3 1 a0 N c0 (ofL (idsA T P n U m Q (meetAt x y u v U))) := by
  have hset := cset_map
  have hS := RyR.startB w T P x y u v a a' n c m c'
  go_enter Tryz.func6, Tryz.ntmps6
  go_wp2_with (go_at_call 21; refine (idsIn_q T P a n c U a' m c' Q (w.heap.size + 1) x y u v _ (h.below hS.wd.bel) (h'.below hS.wd.bel) hn hm hS.r0 hS.r1 hS.r2 hS.r3 hS.big).mono ?_; rintro e w2 ⟨a0, N, c0, rfl, hN, hO⟩)
  go_ret
  exact ⟨_, _, _, rfl, hN, hO.under hS.wd.bel⟩
theorem sb_ok {k g h x y : Int} (s : shB k g h = true) (p : inB 2560000 x y = true) : bokB (sbA k g h x y) (sbB k g h x y) (sbC k g h x y) (sbD k g h x y) = true := by
  unfold sbA sbB sbC sbD bokB vokB leB
  rw [s, p]
  have hp := inB_of p
  rcases shB_two s with ⟨rfl, rfl, a1, a2⟩ | ⟨rfl, a1, a2, a3, a4⟩ <;> simp [bb, hh] <;> omega
theorem sq_le {a b g : Int} (hg : 0 ≤ g) (h : a * a + b * b ≤ g * g) : -g ≤ a ∧ a ≤ g := by
  have hb : 0 ≤ b * b := by
    rcases Int.le_total 0 b with q | q
    · exact Int.mul_nonneg q q
    · exact Int.mul_nonneg_of_nonpos_of_nonpos q q
  have e : (g + 1) * (g + 1) = g * g + 2 * g + 1 := by rw [Int.add_mul, Int.mul_add]; omega
  refine ⟨?_, ?_⟩
  · by_cases q : a < -g
    · have k := sq_mono (a := g + 1) (b := -a) (by omega) (by omega)
      rw [Int.neg_mul_neg] at k
      omega
    · omega
  · by_cases q : g < a
    · have k := sq_mono (a := g + 1) (b := a) (by omega) (by omega)
      omega
    · omega
theorem has_parts {k g h x y u v : Int} (hs : shV k g h x y u v = true) : shB k g h = true ∧ inB 2560000 x y = true ∧ inB 2560000 u v = true ∧ hasV k g h x y u v = true := by
  unfold shV at hs; simp only [Bool.and_eq_true] at hs; exact ⟨hs.1, hs.2.1, hs.2.2.1, hs.2.2.2⟩
theorem has_in {k g h x y u v : Int} (h1 : shB k g h = true) (hv : hasV k g h x y u v = true) : (x - g ≤ u ∧ u ≤ x + g) ∧ (y - hh k g h ≤ v ∧ v ≤ y + hh k g h) := by
  unfold shB rdB bxB at h1
  simp only [Bool.or_eq_true, decide_eq_true_eq] at h1
  unfold hasV at hv
  unfold hh
  rcases h1 with h1 | h1
  · rw [if_pos h1.1]
    rw [if_neg (by omega)] at hv
    simp only [decide_eq_true_eq] at hv
    have a1 := sq_le (by omega) hv
    rw [Int.add_comm] at hv
    have a2 := sq_le (by omega) hv
    omega
  · rw [if_neg (by omega)]
    rw [if_pos h1.1] at hv
    unfold ptB at hv
    simp only [decide_eq_true_eq] at hv
    exact hv
theorem has_meets {x y : Int} {U : Nat → Int} {k : Nat} (h : hasAt x y U k = true) : meetAt x y x y U k = true := by
  unfold hasAt at h
  obtain ⟨h1, h2, h3, h4⟩ := has_parts h
  have q := sb_ok h1 h2
  have b := has_in h1 h4
  obtain ⟨hx, hy⟩ := inB_of h3
  unfold meetAt sbX
  rw [q]
  have e1 : bokB x y x y = true := by unfold bokB vokB leB; simp only [Bool.and_eq_true, decide_eq_true_eq]; omega
  rw [e1]
  unfold leB sbA sbB sbC sbD
  rw [h1, h2]
  simp only [bb, Bool.true_and, Bool.and_eq_true, decide_eq_true_eq, if_true]
  omega
theorem has_list {p : Nat → Bool} {U : Nat → Int} {n k : Nat} (ha : ascU U n) (hk : k < n) : (∃ q, q < (idL p U n).length ∧ ofL (idL p U n) q = U (k * 12)) ↔ p k = true := by
  rw [ofL_mem, mem_idL]
  constructor
  · rintro ⟨j, hj, h1, h2⟩
    rcases Nat.lt_trichotomy j k with h | h | h
    · have := ha j k h hk; omega
    · subst h; exact h1
    · have := ha k j h hj; omega
  · intro h; exact ⟨k, hk, h, rfl⟩
set_option maxRecDepth 20000 in
set_option maxHeartbeats 8000000 in
theorem fnWorldAt_walk (ac : Option Addr) (len cap : Nat) (w : World) (hb : Bytes w ac len cap) :
    Calls Tryz.prog 4 #[.slice ac len cap] w fun e w' => e = .returned (.bool true) ∧ Below w.heap.size w w' := by
  have hset := cset_map
  by_cases hlen : 1048576 < len
  · have hl : (1048576 : Int) < (len : Int) := by omega
    go_enter Tryz.func4, Tryz.ntmps4
    go_wp2_with fail
    go_ret
    exact ⟨rfl, Below.refl _ _⟩
  have hl : ¬ (1048576 : Int) < (len : Int) := by omega
  go_enter Tryz.func4, Tryz.ntmps4
  go_upto_region 3 with fail
  go_cut [3, 4] (fun s3 s4 wc => ∃ (b3 b4' : Nat) (T P : Int) (a : Option Addr) (n c : Nat) (U : Nat → Int) (a' : Option Addr) (m c' : Nat) (Q : Nat → Int) (x y : Int), s3 = .pointer (some ⟨b3, 0, none⟩) ∧ s4 = .pointer (some ⟨b4', 0, none⟩) ∧ (n ≤ 13 ∧ m ≤ 433) ∧ Below w.heap.size w wc ∧ Wv wc b3 T P a n c U a' m c' Q ∧ Ub wc b4' x y)
  case first =>
    go_wp2_with (go_at_call 13; refine (drawWorldAt_w _ _ _ _ hb).mono ?_; rintro e w1 ⟨T, P, a, n, c, U, a', m, c', Q, x, y, rfl, ⟨hn, hm⟩, hO⟩)
    go_meet
    have hV := Wv.new (T := T) (P := P) hO
    have hE : Below w1.heap.size w1 (w1.alloc (.cells #[.int .i64 T, .int .i64 P, .slice a n c, .slice a' m c'] 26)) := balloc _ _
    have hX := Ub.new (w1.alloc (.cells #[.int .i64 T, .int .i64 P, .slice a n c, .slice a' m c'] 26)) x y
    rw [show (w1.alloc (.cells #[.int .i64 T, .int .i64 P, .slice a n c, .slice a' m c'] 26)).heap.size = w1.heap.size + 1 by simp] at hX
    exact ⟨_, _, T, P, a, n, c, U, a', m, c', Q, x, y, rfl, rfl, ⟨hn, hm⟩, (hO.bel.trans (hE.mono hO.bel.size)).alloc (by simp; have := hO.bel.size; omega) _, hV.on (balloc _ _), hX⟩
  case rest =>
  obtain ⟨b3, b4', T, P, a, n, c, U, a', m, c', Q, x, y, rfl, rfl, ⟨hn, hm⟩, bel, hL, hX⟩ := hcut
  have hlen13 := idsA_len T P n U m Q (hasAt x y U)
  obtain ⟨LL, hLL0⟩ : ∃ L, (idsA T P n U m Q (hasAt x y U)) = L := ⟨_, rfl⟩
  rw [hLL0] at hlen13
  have hLL : Shut ((idsA T P n U m Q (hasAt x y U)) = LL) := hLL0
  clear hLL0
  have d0 := hL.d.vb.c0
  have d1 := hL.d.vb.c1
  have d2 := hL.d.vb.c2
  have d3 := hL.d.vb.c3
  have df := hL.d.vb.f
  have z0 := hX.c0
  have z1 := hX.c1
  have zf := hX.f
  go_upto_region 4 with fail
  go_cut [5] (fun s5 wc => ∃ (a5 : Option Addr) (N c5 : Nat), s5 = .slice a5 N c5 ∧ LL.length = N ∧ Below w.heap.size w wc ∧ Wv wc b3 T P a n c U a' m c' Q ∧ Ub wc b4' x y ∧ Flat wc a5 (N * 1) (ofL LL))
  case first =>
    go_wp2_with (go_at_call 14; refine (worldAt_q T P a n c U a' m c' Q x y _ hL.fb hL.fp (by omega) (by omega)).mono ?_; rintro e w2 ⟨a5, N, c5, rfl, hN, hO⟩)
    go_meet
    rw [hLL.out] at hN hO
    have hb2 := hO.bel
    exact ⟨a5, N, c5, rfl, by omega, bel.trans (hb2.mono bel.size), hL.on hb2, hX.on hb2, hO.own.flat⟩
  case rest =>
  clear d0 d1 d2 d3 df z0 z1 zf bel hL hX
  obtain ⟨a5, N, c5, rfl, hN, bel, hL, hX, hF⟩ := hcut
  obtain ⟨OK, hOK0⟩ : ∃ b, worldB T P n U m Q = b := ⟨_, rfl⟩
  have hOK : Shut (worldB T P n U m Q = OK) := hOK0
  clear hOK0
  have d0 := hL.d.vb.c0
  have d1 := hL.d.vb.c1
  have d2 := hL.d.vb.c2
  have d3 := hL.d.vb.c3
  have df := hL.d.vb.f
  have z0 := hX.c0
  have z1 := hX.c1
  have zf := hX.f
  go_upto_region 5 with fail
  go_cut [31] (fun s31 wc => s31 = .bool (!OK) ∧ Below w.heap.size w wc ∧ Wv wc b3 T P a n c U a' m c' Q ∧ Ub wc b4' x y ∧ Flat wc a5 (N * 1) (ofL LL))
  case first =>
    go_wp2_with (first
      | (have _ := hb3; go_at_call 9; refine (sWorldOk_q T P a n c U a' m c' Q _ (hL.fb.below (hO7.bel.trans (hb3.mono hO7.bel.size))) (hL.fp.below (hO7.bel.trans (hb3.mono hO7.bel.size))) (by omega) (by omega) OK hOK.out).mono ?_; rintro e w4 ⟨rfl, hb4⟩)
      | (have hN7' := hN7; go_at_call 7; rw [hLL.out] at hN7 hO7; obtain rfl : N7 = N := (by omega); refine (pqInts_same a5 a7 N7 c5 c7 (ofL LL) _ (hF.below hO7.bel) hO7.own.flat (by omega)).mono ?_; rintro e w3 ⟨rfl, hb3⟩; clear d0 d1 d2 d3 df z0 z1 zf; have hL3 := hL.on (hO7.bel.trans (hb3.mono hO7.bel.size)); have d0 := hL3.d.vb.c0; have d1 := hL3.d.vb.c1; have d2 := hL3.d.vb.c2; have d3 := hL3.d.vb.c3; have df := hL3.d.vb.f)
      | (go_at_call 15; refine (sWorldAt_q T P a n c U a' m c' Q x y _ hL.fb hL.fp (by omega) (by omega)).mono ?_; rintro e w2 ⟨a7, N7, c7, rfl, hN7, hO7⟩))
    go_meet
    have hb34 := (hO7.bel.trans (hb3.mono hO7.bel.size)).trans (hb4.mono (Nat.le_trans hO7.bel.size hb3.size))
    exact ⟨rfl, bel.trans (hb34.mono bel.size), hL.on hb34, hX.on hb34, hF.below hb34⟩
  case rest =>
  clear d0 d1 d2 d3 df z0 z1 zf bel hL hX hF
  obtain ⟨rfl, bel, hL, hX, hF⟩ := hcut
  have d0 := hL.d.vb.c0
  have d1 := hL.d.vb.c1
  have d2 := hL.d.vb.c2
  have d3 := hL.d.vb.c3
  have df := hL.d.vb.f
  have z0 := hX.c0
  have z1 := hX.c1
  have zf := hX.f
  cases OK with
  | false =>
    go_wp2_with (first | (have hN7' := hN7; go_at_call 7; rw [hLL.out] at hN7 hO7; obtain rfl : N7 = N := (by omega); refine (pqInts_same a5 a7 N7 c5 c7 (ofL LL) _ (hF.below hO7.bel) hO7.own.flat (by omega)).mono ?_; rintro e w3 ⟨rfl, hb3⟩) | (go_at_call 15; refine (sWorldAt_q T P a n c U a' m c' Q x y _ hL.fb hL.fp (by omega) (by omega)).mono ?_; rintro e w2 ⟨a7, N7, c7, rfl, hN7, hO7⟩))
    have hb34 := hO7.bel.trans (hb3.mono hO7.bel.size)
    go_ret
    exact ⟨rfl, bel.trans (hb34.mono bel.size)⟩
  | true =>
    have hB := Bods.of (bods_of_world hOK.out)
    have hasc := bodsB_asc (bods_of_world hOK.out)
    have hLI : Shut (LL = idL (hasAt x y U) U n) := by show _ = _; rw [← hLL.out]; unfold idsA; rw [hOK.out]; rfl
    have hlenM := idsA_len T P n U m Q (meetAt x y x y U)
    obtain ⟨MM, hMM0⟩ : ∃ L, (idsA T P n U m Q (meetAt x y x y U)) = L := ⟨_, rfl⟩
    rw [hMM0] at hlenM
    have hMI : Shut (MM = idL (meetAt x y x y U) U n) := by show _ = _; rw [← hMM0]; unfold idsA; rw [hOK.out]; rfl
    have hMM : Shut ((idsA T P n U m Q (meetAt x y x y U)) = MM) := hMM0
    clear hMM0
    go_upto_region 7 with fail
    go_cut [6] (fun s6 wc => ∃ (a6 : Option Addr) (M c6 : Nat), s6 = .slice a6 M c6 ∧ MM.length = M ∧ Below w.heap.size w wc ∧ Wv wc b3 T P a n c U a' m c' Q ∧ Ub wc b4' x y ∧ Flat wc a5 (N * 1) (ofL LL) ∧ Flat wc a6 (M * 1) (ofL MM))
    case first =>
      go_wp2_with (go_at_call 6; refine (worldIn_q T P a n c U a' m c' Q x y x y _ hL.fb hL.fp (by omega) (by omega)).mono ?_; rintro e w2 ⟨a6, M, c6, rfl, hM, hO⟩)
      go_meet
      rw [hMM.out] at hM hO
      have hb2 := hO.bel
      exact ⟨a6, M, c6, rfl, by omega, bel.trans (hb2.mono bel.size), hL.on hb2, hX.on hb2, hF.below hb2, hO.own.flat⟩
    case rest =>
    clear d0 d1 d2 d3 df z0 z1 zf bel hL hX hF
    obtain ⟨a6, M, c6, rfl, hM, bel, hL, hX, hF, hG⟩ := hcut
    go_upto_region 9 with fail
    go_loopw [7] (fun s7 wr => ∃ k : Nat, k ≤ n ∧ s7 = .int .i64 (k : Int) ∧ Below w.heap.size w wr ∧ Wv wr b3 T P a n c U a' m c' Q ∧ Ub wr b4' x y ∧ Flat wr a5 (N * 1) (ofL LL) ∧ Flat wr a6 (M * 1) (ofL MM)) (fun s7 _ => n - (intOf s7).toNat)
    case atStart => exact ⟨0, Nat.zero_le _, rfl, bel, hL, hX, hF, hG⟩
    case round =>
      clear bel hL hX hF hG
      obtain ⟨k, hk, rfl, bel, hL, hX, hF, hG⟩ := hrel
      have d0 := hL.d.vb.c0
      have d1 := hL.d.vb.c1
      have d2 := hL.d.vb.c2
      have d3 := hL.d.vb.c3
      have df := hL.d.vb.f
      have z0 := hX.c0
      have z1 := hX.c1
      have zf := hX.f
      by_cases hlt : k < n
      · have hkn : (k : Int) < (n : Int) := by omega
        obtain ⟨g0, o0, eg0, _, hc0⟩ := hL.fb (by omega)
        have t0 : wr.cell? ⟨g0, o0 + k * 12, none⟩ = some (.int .i64 (U (k * 12))) := by have q := hc0 (k * 12 + 0) (by omega); simpa [Nat.add_assoc] using q
        have t1 : wr.cell? ⟨g0, o0 + k * 12 + 1, none⟩ = some (.int .i64 (U (k * 12 + 1))) := by have q := hc0 (k * 12 + 1) (by omega); simpa [Nat.add_assoc] using q
        have t2 : wr.cell? ⟨g0, o0 + k * 12 + 2, none⟩ = some (.int .i64 (U (k * 12 + 2))) := by have q := hc0 (k * 12 + 2) (by omega); simpa [Nat.add_assoc] using q
        have t3 : wr.cell? ⟨g0, o0 + k * 12 + 3, none⟩ = some (.int .i64 (U (k * 12 + 3))) := by have q := hc0 (k * 12 + 3) (by omega); simpa [Nat.add_assoc] using q
        have t4 : wr.cell? ⟨g0, o0 + k * 12 + 4, none⟩ = some (.int .i64 (U (k * 12 + 4))) := by have q := hc0 (k * 12 + 4) (by omega); simpa [Nat.add_assoc] using q
        have t5 : wr.cell? ⟨g0, o0 + k * 12 + 5, none⟩ = some (.int .i64 (U (k * 12 + 5))) := by have q := hc0 (k * 12 + 5) (by omega); simpa [Nat.add_assoc] using q
        have t6 : wr.cell? ⟨g0, o0 + k * 12 + 6, none⟩ = some (.int .i64 (U (k * 12 + 6))) := by have q := hc0 (k * 12 + 6) (by omega); simpa [Nat.add_assoc] using q
        have t7 : wr.cell? ⟨g0, o0 + k * 12 + 7, none⟩ = some (.int .i64 (U (k * 12 + 7))) := by have q := hc0 (k * 12 + 7) (by omega); simpa [Nat.add_assoc] using q
        have t8 : wr.cell? ⟨g0, o0 + k * 12 + 8, none⟩ = some (.int .i64 (U (k * 12 + 8))) := by have q := hc0 (k * 12 + 8) (by omega); simpa [Nat.add_assoc] using q
        have t9 : wr.cell? ⟨g0, o0 + k * 12 + 9, none⟩ = some (.int .i64 (U (k * 12 + 9))) := by have q := hc0 (k * 12 + 9) (by omega); simpa [Nat.add_assoc] using q
        have t10 : wr.cell? ⟨g0, o0 + k * 12 + 10, none⟩ = some (.int .i64 (U (k * 12 + 10))) := by have q := hc0 (k * 12 + 10) (by omega); simpa [Nat.add_assoc] using q
        have t11 : wr.cell? ⟨g0, o0 + k * 12 + 11, none⟩ = some (.int .i64 (U (k * 12 + 11))) := by have q := hc0 (k * 12 + 11) (by omega); simpa [Nat.add_assoc] using q
        clear hc0
        subst eg0
        go_upto_region 11 with fail
        go_cut [8] (fun s8 wc => ∃ (eb : Nat) (V : Nat → Int), s8 = .pointer (some ⟨eb, 0, none⟩) ∧ (∀ j, V j = U (k * 12 + j)) ∧ Bb wc eb V ∧ Below wr.heap.size wr wc)
        case first =>
          go_wp2_with fail
          go_meet
          exact ⟨_, (fun j => U (k * 12 + j)), rfl, fun _ => rfl, Bb.new wr (fun j => U (k * 12 + j)), balloc _ _⟩
        case rest =>
        clear t0 t1 t2 t3 t4 t5 t6 t7 t8 t9 t10 t11 d0 d1 d2 d3 df z0 z1 zf
        obtain ⟨eb, V, rfl, hV0, hE, hbE⟩ := hcut
        obtain ⟨HS, hHS0⟩ : ∃ b, hasAt x y U k = b := ⟨_, rfl⟩
        have hHS : Shut (shV (V 1) (V 2) (V 3) (V 4) (V 5) x y = HS) := by show _ = _; rw [hV0 1, hV0 2, hV0 3, hV0 4, hV0 5]; exact hHS0
        have b1 : Shut (HS = true ↔ ∃ q, q < N ∧ ofL LL q = V 0) := by
          show _ ↔ _
          have q := has_list (p := hasAt x y U) hasc hlt
          rw [← hLI.out, hN, hHS0] at q
          rw [hV0 0]
          exact q.symm
        have b2 : Shut (HS = true → (true = true ↔ ∃ q, q < M ∧ ofL MM q = V 0)) := by
          show _ → _
          intro ht
          have q := has_list (p := meetAt x y x y U) hasc hlt
          rw [← hMI.out, hM] at q
          rw [hV0 0]
          exact ⟨fun _ => q.2 (has_meets (by rw [hHS0]; exact ht)), fun _ => rfl⟩
        clear hHS0 hV0
        have bel1 := bel.trans (hbE.mono bel.size)
        have hL1 := hL.on hbE
        have hX1 := hX.on hbE
        have hF1 := hF.below hbE
        have hG1 := hG.below hbE
        clear bel hL hX hF hG hbE
        have q0 := hE.c0
        have q1 := hE.c1
        have q2 := hE.c2
        have q3 := hE.c3
        have q4 := hE.c4
        have q5 := hE.c5
        have z0 := hX1.c0
        have z1 := hX1.c1
        have zf := hX1.f
        go_upto_region 12 with fail
        go_cut [9] (fun s9 wc => s9 = .bool HS ∧ Bb wc eb V ∧ Below w.heap.size w wc ∧ Wv wc b3 T P (some ⟨g0, o0, none⟩) n c U a' m c' Q ∧ Ub wc b4' x y ∧ Flat wc a5 (N * 1) (ofL LL) ∧ Flat wc a6 (M * 1) (ofL MM))
        case first =>
          go_wp2_with (go_at_call 16; refine (shapeHas_q (V 1) (V 2) (V 3) (V 4) (V 5) x y HS _ hHS.out).mono ?_; rintro e w3 ⟨rfl, hb3⟩)
          go_meet
          exact ⟨rfl, hE.on hb3, bel1.trans (hb3.mono bel1.size), hL1.on hb3, hX1.on hb3, hF1.below hb3, hG1.below hb3⟩
        case rest =>
        clear q0 q1 q2 q3 q4 q5 z0 z1 zf hE bel1 hL1 hX1 hF1 hG1
        obtain ⟨rfl, hE, bel, hL, hX, hF, hG⟩ := hcut
        have q0 := hE.c0
        go_upto_region 13 with fail
        go_cut [75] (fun s75 wc => s75 = .bool false ∧ Below w.heap.size w wc ∧ Wv wc b3 T P (some ⟨g0, o0, none⟩) n c U a' m c' Q ∧ Ub wc b4' x y ∧ Flat wc a5 (N * 1) (ofL LL) ∧ Flat wc a6 (M * 1) (ofL MM))
        case first =>
          cases HS with
          | false =>
            go_wp2_with (go_at_call 17; refine (pqHas_q a5 N c5 (ofL LL) (V 0) false _ hF (by omega) b1.out).mono ?_; rintro e w4 ⟨rfl, hb4⟩)
            go_meet
            exact ⟨rfl, bel.trans (hb4.mono bel.size), hL.on hb4, hX.on hb4, hF.below hb4, hG.below hb4⟩
          | true =>
            have b3' : Shut (∃ q, q < M ∧ ofL MM q = V 0) := (b2.out rfl).1 rfl
            clear b2
            have hM1 : M ≤ 1000 := by omega
            go_wp2_with (first
              | (have _ := hb4; go_at_call 17; refine (pqHas_q a6 M c6 (ofL MM) (V 0) true _ (hG.below hb4) hM1 ⟨fun _ => b3'.out, fun _ => rfl⟩).mono ?_; rintro e w5 ⟨rfl, hb5⟩)
              | (go_at_call 17; refine (pqHas_q a5 N c5 (ofL LL) (V 0) true _ hF (by omega) b1.out).mono ?_; rintro e w4 ⟨rfl, hb4⟩; clear q0; have q0 := (hE.on hb4).c0))
            go_meet
            have hb45 := hb4.trans (hb5.mono hb4.size)
            exact ⟨rfl, bel.trans (hb45.mono bel.size), hL.on hb45, hX.on hb45, hF.below hb45, hG.below hb45⟩
        case rest =>
        clear q0 hE bel hL hX hF hG b1 b2
        obtain ⟨rfl, bel, hL, hX, hF, hG⟩ := hcut
        go_wp2_with fail
        go_roundw
        case rel => exact ⟨k + 1, by omega, by go_num, bel, hL, hX, hF, hG⟩
        case measure => simp [intOf]; omega
      · obtain rfl : k = n := by omega
        go_wp2_with fail
        go_ret
        exact ⟨rfl, bel⟩
end Go.Proofs.YtdajfjipomkpdaaGreat
namespace Go.Proofs.YtdajfjipomkpdaaGreat
theorem head_cut {l : List (List Char)} {c : List Char} (h : (l.head? == some c) = true) : ∃ rest, l = c :: rest := by
  cases l with
  | nil => simp at h
  | cons a r => simp at h; exact ⟨r, by rw [h]⟩
theorem strip_cut (rest : List (List Char)) : stripLifts liftWords ("cut".toList :: rest) = ([], "cut".toList :: rest) := by kernel_rfl
theorem make_of {P : Program} {l : List Char} (h0 : P.initOrder.toList = l) (h1 : ((behindMainWord (wordsSigns l)).head? == some "cut".toList) = true) : P.make = some .cut := by
  obtain ⟨rest, hr⟩ := head_cut h1
  unfold Program.make
  rw [h0, hr]
  rfl
theorem headLifts_of {P : Program} {l : List Char} (h0 : P.initOrder.toList = l) (h1 : ((behindMainWord (wordsSigns l)).head? == some "cut".toList) = true) : P.headLifts = [] := by
  obtain ⟨rest, hr⟩ := head_cut h1
  unfold Program.headLifts
  rw [h0, hr, strip_cut]
  rfl
theorem liftsFinal_of {P : Program} {l : List Char} (h0 : P.initOrder.toList = l) (h1 : ((behindMainWord (wordsSigns l)).head? == some "cut".toList) = true) : P.liftsFinal = false := by
  have hh := headLifts_of h0 h1
  obtain ⟨rest, hr⟩ := head_cut h1
  unfold Program.liftsFinal
  rw [h0, hr, hh]
  rfl
theorem mayEnter_of {P : Program} {l : List Char} (h0 : P.initOrder.toList = l) (h1 : ((behindMainWord (wordsSigns l)).head? == some "cut".toList) = true) (h2 : P.laysLater = false) (h3 : P.bearsReflect = false) (h4 : P.doorFits [] = true) : P.mayEnter = true := by
  obtain ⟨rest, hr⟩ := head_cut h1
  unfold Program.mayEnter
  rw [h0, hr]
  simp only [strip_cut, h2, h3, h4]
  simp
end Go.Proofs.YtdajfjipomkpdaaGreat
namespace Go.Proofs.YtdajfjipomkpdaaGreat
set_option maxRecDepth 100000
def ordL : { l : List Char // Tryz.prog.initOrder = String.ofList l } := ⟨_, rfl⟩
theorem ordT : Tryz.prog.initOrder.toList = ordL.1 := (congrArg String.toList ordL.2).trans String.toList_ofList
theorem headE : ((behindMainWord (wordsSigns ordL.1)).head? == some "cut".toList) = true := by kernel_rfl
theorem makeT : Tryz.prog.make = some .cut := make_of ordT headE
theorem liftsFinalT : Tryz.prog.liftsFinal = false := liftsFinal_of ordT headE
theorem laysLaterT : Tryz.prog.laysLater = false := by kernel_rfl
theorem bearsReflectT : Tryz.prog.bearsReflect = false := by kernel_rfl
theorem doorFitsT : Tryz.prog.doorFits [] = true := by kernel_rfl
theorem mayEnterT : Tryz.prog.mayEnter = true := mayEnter_of ordT headE laysLaterT bearsReflectT doorFitsT
theorem ownT : ownKnob Tryz.prog.godebug = none := by kernel_rfl
theorem laidOutT : laidOutB Tryz.prog = true := by kernel_rfl
theorem mapsRowedT : mapsRowed Tryz.prog = true := by kernel_rfl
theorem stopsHeardT : Tryz.prog.stopsHeard = true := by kernel_rfl
theorem plainKeysT : Tryz.prog.plainKeys = true := by kernel_rfl
end Go.Proofs.YtdajfjipomkpdaaGreat
