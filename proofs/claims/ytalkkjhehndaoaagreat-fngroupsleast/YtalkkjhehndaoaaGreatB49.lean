/- Texts of a proof. -/
import Derived.Test.YtalkkjhehndaoaaGreatB28
import Derived.Deep.RegionHeld3
import Derived.Deep.DeepCutAuto
import Derived.Test.YtalkkjhehndaoaaGreatB44
import Derived.Test.YtalkkjhehndaoaaGreatB27
import Derived.Test.YtalkkjhehndaoaaGreatS9m
import Derived.Test.YtalkkjhehndaoaaGreatB24
import Derived.Test.YtalkkjhehndaoaaGreatS8l
import Derived.Test.YtalkkjhehndaoaaGreatS8a
import Derived.Test.YtalkkjhehndaoaaGreatB36
set_option maxHeartbeats 16000000
set_option maxRecDepth 20000
namespace Go.Proofs.YtalkkjhehndaoaaGreat
open Go.RowKit
set_option linter.unusedVariables false
set_option linter.unusedSimpArgs false
def ApartDoes : Prop := ∀ (base g n c : Nat) (U : Nat → Int) (A B : Nat) (X Y D : Int) (w : World), OwnL w base 34 12 (.slice (some ⟨g, 0, none⟩) n c) n U → n ≤ 1048576 → A < n → B < n → Bods n U → (-256 ≤ X ∧ X ≤ 256) → (-256 ≤ Y ∧ Y ≤ 256) → (0 ≤ D ∧ D ≤ 102400) → Calls Tryz.prog 101 #[.slice (some ⟨g, 0, none⟩) n c, .agg #[.int .i64 (A : Int), .int .i64 (B : Int), .int .i64 X, .int .i64 Y, .int .i64 D]] w fun e w' => e = .returned (.tuple #[]) ∧ OwnL w' base 34 12 (.slice (some ⟨g, 0, none⟩) n c) n (apartU U A B X Y D) ∧ Fr (fun b => b = g) w w'
theorem l8Aparts_of (HA : ApartDoes) (a : Option Addr) (n c : Nat) (U : Nat → Int) (ac : Option Addr) (m cc : Nat) (C : Nat → Int) (w : World) (h : Flat w a (n * 12) U) (hn : n ≤ 1048576) (hm : m ≤ 1048576) (h2 : Flat w ac (m * 5) C) (hbb : Bods n U) (hC : CtOk n m C) :
 Calls Tryz.prog 84 #[.slice a n c, .slice ac m cc] w fun e w' => ∃ a1 c1, e = .returned (.slice a1 n c1) ∧ OutL w w' 34 12 a1 n c1 (apartN C U m) := by
 have hset := cset_map
 go_enter Tryz.func84, Tryz.ntmps84
 go_upto_region 1 with fail
 go_cut [5] (fun s0 wc => ∃ a1 c1, s0 = .slice a1 n c1 ∧ OutL w wc 34 12 a1 n c1 U)
 case first =>
  go_wp2_with (go_at_call 99; refine (l8Copy_any a n c U _ h hn).mono ?_; rintro e w3 ⟨a1, c1, rfl, hO⟩)
  go_meet
  exact ⟨_, _, rfl, hO⟩
 case rest =>
 obtain ⟨a1, c1, rfl, hO⟩ := hcut
 go_upto_region 3 with fail
 go_loopw [6] (fun s wr => ∃ k : Nat, k ≤ m ∧ s = .int .i64 (k : Int) ∧ OutL w wr 34 12 a1 n c1 (apartN C U k)) (fun s _ => m - (intOf s).toNat)
 case atStart => exact ⟨0, Nat.zero_le _, rfl, hO⟩
 case round =>
  clear hO
  obtain ⟨k, hk, rfl, hO⟩ := hrel
  by_cases hlt : k < m
  · have hkm : (k : Int) < (m : Int) := by omega
    have ca := hC.a k hlt
    have cb := hC.b k hlt
    have cx := hC.x k hlt
    have cy := hC.y k hlt
    have cd := hC.d k hlt
    have hB := (hbb.aparts hC k hk).1
    obtain ⟨b2, o2, e2, hbl2, hc2⟩ := (h2.below hO.bel) (by omega)
    have r0 := hc2 (k * 5) (by omega)
    have r1 := hc2 (k * 5 + 1) (by omega)
    have r2 := hc2 (k * 5 + 2) (by omega)
    have r3 := hc2 (k * 5 + 3) (by omega)
    have r4 := hc2 (k * 5 + 4) (by omega)
    simp only [← Nat.add_assoc] at r0 r1 r2 r3 r4
    clear hc2
    subst e2
    have HN : Shut (apartN C U (k + 1) = apartU (apartN C U k) (C (k * 5)).toNat (C (k * 5 + 1)).toNat (C (k * 5 + 2)) (C (k * 5 + 3)) (C (k * 5 + 4))) := by show _ = _; rw [apartN]
    obtain ⟨A, hA⟩ : ∃ A : Nat, C (k * 5) = (A : Int) := ⟨(C (k * 5)).toNat, by omega⟩
    obtain ⟨B, hBB⟩ : ∃ B : Nat, C (k * 5 + 1) = (B : Int) := ⟨(C (k * 5 + 1)).toNat, by omega⟩
    rw [hA, hBB, Int.toNat_natCast, Int.toNat_natCast] at HN
    rw [hA] at ca r0
    rw [hBB] at cb r1
    clear hA hBB
    obtain ⟨g, rfl, hg1, hg2⟩ := hO.own.loc (by omega)
    go_wp2_with (go_at_call 101; refine (HA w.heap.size g n c1 (apartN C U k) A B _ _ _ _ hO.own hn (by omega) (by omega) hB cx cy cd).mono ?_; rintro e w5 ⟨rfl, ho5, hf5⟩)
    have hB5 : Below w.heap.size w w5 := hO.bel.trans (hf5.below (by have := hO.bel.size; omega) (fun b e => by omega))
    go_roundw
    case rel => exact ⟨k + 1, by omega, by go_num, hB5, by rw [HN.out]; exact ho5⟩
    case measure => simp [intOf]; omega
  · obtain rfl : k = m := by omega
    go_wp2_with fail
    go_ret
    exact ⟨_, _, rfl, hO⟩
theorem OutL.up {w0 w wr : World} {t k n c : Nat} {a : Option Addr} {R : Nat → Int} (h : OutL w wr t k a n c R) (hb : Below w0.heap.size w0 w) : OutL w0 wr t k a n c R := ⟨hb.trans (h.bel.mono hb.size), h.own.base hb.size⟩
theorem l8Aparts_any : ApartDoes := fun base g n c U A B X Y D w h1 h2 h3 h4 h5 h6 h7 h8 => l8Apart_any base g n c U A B X Y D w h1 h2 h3 h4 h5 h6 h7 h8
def ctC (n : Nat) (U : Nat → Int) : Nat → Int := ofL (conL (colOf U) n)
def ctM (n : Nat) (U : Nat → Int) : Nat := (conL (colOf U) n).length / 5
def gpG (n : Nat) (U : Nat → Int) : Nat → Int := ofL (grpL U (ctC n U) (ctM n U) n)
def awA (n : Nat) (U : Nat → Int) : Nat → Bool := fun j => (awL U (gpG n U) n).getD j false
def awN (n : Nat) (U : Nat → Int) : Nat := (awL U (gpG n U) n).length
def wokeU (n : Nat) (U : Nat → Int) : Nat → Int := mapR (fun i V => wakeV (awK (gpG n U) (awA n U) i) V) U n
def lvC (n : Nat) (U : Nat → Int) : Nat → Int := ofL (liveL (wokeU n U) (ctC n U) (ctM n U))
def lvM (n : Nat) (U : Nat → Int) : Nat := (liveL (wokeU n U) (ctC n U) (ctM n U)).length / 5
def pushU (n : Nat) (U : Nat → Int) (g : Int) : Nat → Int := allN (lvC n U) (mapR (fun _ V => pullV g V) (wokeU n U) n) (lvM n U) 4
def goneU (n : Nat) (U : Nat → Int) (g : Int) : Nat → Int := apartN (lvC n U) (mapR (fun _ V => goV V) (pushU n U g) n) (lvM n U)
def stepU (n : Nat) (U : Nat → Int) (g : Int) : Nat → Int := sleepN (gpG n U) (awA n U) n (mapR (fun i V => quietV (wokeU n U (i * 12 + 11)) V) (goneU n U g) n) (awN n U)
theorem gp_val (n : Nat) (U : Nat → Int) : ∀ i, i < n → gpG n U i = valN U (ofL (grpR U (ctC n U) (ctM n U) (rng n) n)) i := fun i hi => ofL_num U _ n i hi
theorem ct_ok (n : Nat) (U : Nat → Int) : CtOk n (ctM n U) (ctC n U) ∧ (conL (colOf U) n).length = ctM n U * 5 := by
 obtain ⟨m, e, _⟩ := conOut_ok (colOf U) n (n := n)
 have e' : (conL (colOf U) n).length = m * 5 := e
 have hm : ctM n U = m := by unfold ctM; omega
 rw [hm]
 exact ⟨con_ct _ e', e'⟩
theorem lv_ok (n : Nat) (U : Nat → Int) : CtOk n (lvM n U) (lvC n U) ∧ (liveL (wokeU n U) (ctC n U) (ctM n U)).length = lvM n U * 5 := by
 have h := live_ok (U := wokeU n U) (con_P (colOf U) (ct_ok n U).2) (ctM n U) (Nat.le_refl _)
 obtain ⟨m, e, _⟩ := id h
 have hm : lvM n U = m := by unfold lvM ctC; omega
 rw [hm]
 exact ⟨h.ct e, e⟩
theorem go8 (V : Nat → Int) : goV V 8 = V 8 := by unfold goV; cases liveV V <;> rfl
theorem quiet8 (z : Int) (V : Nat → Int) : quietV z V 8 = V 8 := by unfold quietV; cases (decide (V 8 = 0) || decide (8 ≤ V 11)) <;> rfl
theorem pull8 (z : Int) (V : Nat → Int) : pullV z V 8 = V 8 := by unfold pullV; cases liveV V <;> rfl
theorem wake8 (b : Bool) (V : Nat → Int) : wakeV b V 8 = V 8 := by unfold wakeV; first | (cases b <;> cases decide (8 ≤ V 11) <;> rfl) | (split <;> rfl)
theorem Bods.steps {n : Nat} {U : Nat → Int} (h : Bods n U) (g : Int) :
 Bods n (wokeU n U) ∧ Bods n (mapR (fun _ V => pullV g V) (wokeU n U) n) ∧ Bods n (pushU n U g) ∧ Bods n (mapR (fun _ V => goV V) (pushU n U g) n) ∧ Bods n (goneU n U g) ∧ Bods n (mapR (fun i V => quietV (wokeU n U (i * 12 + 11)) V) (goneU n U g) n) ∧ Bods n (stepU n U g) ∧ ∀ k, k < n → stepU n U g (k * 12 + 8) = U (k * 12 + 8) := by
 have h1 : Bods n (wokeU n U) := h.wake
 have h2 := h1.pull g
 have h3 : Bods n (pushU n U g) ∧ ∀ i, pushU n U g (i * 12 + 8) = mapR (fun _ V => pullV g V) (wokeU n U) n (i * 12 + 8) := h2.all (lv_ok n U).1 4
 have h4 := h3.1.go
 have h5 : Bods n (goneU n U g) ∧ ∀ i, goneU n U g (i * 12 + 8) = mapR (fun _ V => goV V) (pushU n U g) n (i * 12 + 8) := h4.aparts (lv_ok n U).1 (lvM n U) (Nat.le_refl _)
 have h6 : Bods n (mapR (fun i V => quietV (wokeU n U (i * 12 + 11)) V) (goneU n U g) n) := h5.1.quiet h1
 have m6 : ∀ k, k < n → mapR (fun i V => quietV (wokeU n U (i * 12 + 11)) V) (goneU n U g) n (k * 12 + 8) = U (k * 12 + 8) := fun k hk => by
  rw [mapR_in hk (by omega), quiet8]
  show goneU n U g (k * 12 + 8) = _
  rw [h5.2 k, mapR_in hk (by omega), go8]
  show pushU n U g (k * 12 + 8) = _
  rw [h3.2 k, mapR_in hk (by omega), pull8]
  show wokeU n U (k * 12 + 8) = _
  unfold wokeU
  rw [mapR_in hk (by omega), wake8]
 have h7 := h6.sleep (G := gpG n U) (A := awA n U) (fun k hk hg => by rw [m6 k hk]; exact (grp_bd U _ (gpG n U) n (gp_val n U) k hk).2.2 hg) (awN n U)
 exact ⟨h1, h2, h3.1, h4, h5.1, h6, h7.1, fun k hk => (h7.2 k hk).trans (m6 k hk)⟩
theorem l9Step_any (a : Option Addr) (n c : Nat) (U : Nat → Int) (g : Int) (w : World) (h : Flat w a (n * 12) U) (hbb : Bods n U) (hg : 0 ≤ g ∧ g ≤ 2560) :
 Calls Tryz.prog 52 #[.slice a n c, .int .i64 g] w fun e w' => ∃ a1 c1, e = .returned (.slice a1 n c1) ∧ OutL w w' 34 12 a1 n c1 (stepU n U g) := by
 have hset := cset_map
 have hn12 := hbb.le
 obtain ⟨B1, B2, B3, B4, B5, B6, B7, _⟩ := hbb.steps g
 obtain ⟨K1, L1⟩ := ct_ok n U
 obtain ⟨K2, L2⟩ := lv_ok n U
 have hG := grp_bd U _ (gpG n U) n (gp_val n U)
 have hm1 : ctM n U ≤ 1048576 := by
  obtain ⟨m, e, hm⟩ := conOut_len (colOf U) n n
  have e' : (conL (colOf U) n).length = m * 5 := e
  have := Nat.mul_le_mul hn12 hn12
  omega
 have hm2 : lvM n U ≤ 1048576 := by have := liveL_len (wokeU n U) (ctC n U) (ctM n U); omega
 have hq2 : ∀ k, k < n → 0 ≤ wokeU n U (k * 12 + 11) ∧ wokeU n U (k * 12 + 11) ≤ 8 := fun k hk => (bodyB_bd (B1.ok k hk)).2.1
 have hna : awN n U ≤ 1048576 := by have := awL_len U (gpG n U) n; unfold awN; omega
 go_enter Tryz.func52, Tryz.ntmps52
 go_upto_region 2 with (go_at_call 21; refine (l7Contacts_any a n c U _ h hbb.to hn12).mono ?_; rintro e w1 ⟨a1, m1, c1, rfl, hm, hO1⟩)
 obtain rfl : m1 = ctM n U := by omega
 have hO1 : OutL w w1 40 5 a1 (ctM n U) c1 (ctC n U) := hO1
 have h1 := h.below hO1.bel
 have f1 := hO1.own.flat
 go_upto_region 3 with (go_at_call 20; refine (l7Groups_any a n c U a1 (ctM n U) c1 (ctC n U) _ h1 (by omega) hm1 f1 K1).mono ?_; rintro e w2 ⟨g2, c2, rfl, hO2⟩)
 have h2 := h1.below hO2.bel
 have f12 := f1.below hO2.bel
 have f2 : Flat w2 (some ⟨g2, 0, none⟩) (n * 1) (gpG n U) := hO2.flat
 go_upto_region 4 with (go_at_call 26; refine (l7Awake_any a n c U (some ⟨g2, 0, none⟩) c2 (gpG n U) _ h2 (by omega) f2 (fun i hi => (hG i hi).1)).mono ?_; rintro e w3 ⟨g3, c3, na, rfl, hna3, hO3⟩)
 obtain rfl : na = awN n U := hna3
 have h3 := h2.below hO3.bel
 have f13 := f12.below hO3.bel
 have f23 := f2.below hO3.bel
 have f3 : FlatB w3 (some ⟨g3, 0, none⟩) (awN n U) (awA n U) := hO3.flatB
 go_upto_region 5 with (go_at_call 80; refine (l9Wake_any a n c U (some ⟨g2, 0, none⟩) c2 (gpG n U) (some ⟨g3, 0, none⟩) (awN n U) c3 (awA n U) _ h3 (by omega) f23 f3 (fun i hi => (hG i hi).2.1)).mono ?_; rintro e w4 ⟨a4, c4, rfl, hO4⟩)
 have hO4 : OutL w3 w4 34 12 a4 n c4 (wokeU n U) := hO4
 have f14 := f13.below hO4.bel
 have f24 := f23.below hO4.bel
 have f34 := f3.below hO4.bel (B := 0)
 have f4 := hO4.own.flat
 go_upto_region 6 with (go_at_call 81; refine (l9Live_any a4 n c4 (wokeU n U) a1 (ctM n U) c1 (ctC n U) _ f4 (by omega) hm1 f14 (fun k hk => ⟨K1.a k hk, K1.b k hk⟩)).mono ?_; rintro e w5 ⟨a5, m5, c5, rfl, hm5, hO5⟩)
 obtain rfl : m5 = lvM n U := by omega
 have hO5 : OutL w4 w5 40 5 a5 (lvM n U) c5 (lvC n U) := hO5
 have f25 := f24.below hO5.bel
 have f35 := f34.below hO5.bel (B := 0)
 have f45 := f4.below hO5.bel
 have f5 := hO5.own.flat
 go_upto_region 7 with (first
  | (go_at_call 83; refine (l9Pull_any a4 n c4 (wokeU n U) g _ f45 (by omega) hg B1).mono ?_; rintro e w6 ⟨a6, c6, rfl, hO6⟩)
  | (go_at_call 82; refine (l8All_any a6 n c6 _ a5 (lvM n U) c5 (lvC n U) _ hO6.own.flat (by omega) hm2 (f5.below hO6.bel) B2 K2).mono ?_; rintro e w7 ⟨a7, c7, rfl, hO7⟩))
 have hO7 : OutL w6 w7 34 12 a7 n c7 (pushU n U g) := hO7
 have f27 := (f25.below hO6.bel).below hO7.bel
 have f37 := (f35.below hO6.bel (B := 0)).below hO7.bel (B := 0)
 have f47 := (f45.below hO6.bel).below hO7.bel
 have f57 := (f5.below hO6.bel).below hO7.bel
 have f7 := hO7.own.flat
 go_upto_region 8 with (first
  | (go_at_call 85; refine (l9Moves_any a7 n c7 (pushU n U g) _ f7 (by omega) B3).mono ?_; rintro e w8 ⟨a8, c8, rfl, hO8⟩)
  | (go_at_call 84; refine (l8Aparts_of l8Aparts_any a8 n c8 _ a5 (lvM n U) c5 (lvC n U) _ hO8.own.flat (by omega) hm2 (f57.below hO8.bel) B4 K2).mono ?_; rintro e w9 ⟨a9, c9, rfl, hO9⟩))
 have hO9 : OutL w8 w9 34 12 a9 n c9 (goneU n U g) := hO9
 have f29 := (f27.below hO8.bel).below hO9.bel
 have f39 := (f37.below hO8.bel (B := 0)).below hO9.bel (B := 0)
 have f49 := (f47.below hO8.bel).below hO9.bel
 have f9 := hO9.own.flat
 go_wp2_with (first
  | (go_at_call 87; refine (l9Quiet_any a9 n c9 (goneU n U g) a4 c4 (wokeU n U) _ f9 (by omega) B5 f49 hq2).mono ?_; rintro e w10 ⟨a10, c10, rfl, hO10⟩)
  | (go_at_call 86; refine (l9Sleep_any a10 n c10 _ (some ⟨g2, 0, none⟩) c2 (gpG n U) (some ⟨g3, 0, none⟩) (awN n U) c3 (awA n U) _ hO10.own.flat (by omega) hna (f29.below hO10.bel) (f39.below hO10.bel (B := 0))).mono ?_; rintro e w11 ⟨a11, c11, rfl, hO11⟩))
 go_ret
 have b2 := hO1.bel.trans (hO2.bel.mono hO1.bel.size)
 have b3 := b2.trans (hO3.bel.mono b2.size)
 have b4 := b3.trans (hO4.bel.mono b3.size)
 have b5 := b4.trans (hO5.bel.mono b4.size)
 have b6 := b5.trans (hO6.bel.mono b5.size)
 have b7 := b6.trans (hO7.bel.mono b6.size)
 have b8 := b7.trans (hO8.bel.mono b7.size)
 have b9 := b8.trans (hO9.bel.mono b8.size)
 have b10 := b9.trans (hO10.bel.mono b9.size)
 exact ⟨_, _, rfl, hO11.up b10⟩
end Go.Proofs.YtalkkjhehndaoaaGreat
