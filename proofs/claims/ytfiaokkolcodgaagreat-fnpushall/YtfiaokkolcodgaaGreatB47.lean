/- Texts of a proof. -/
import Derived.Test.YtfiaokkolcodgaaGreatB42
import Derived.Test.YtfiaokkolcodgaaGreatB27
import Derived.Test.YtfiaokkolcodgaaGreatB38
import Derived.Test.YtfiaokkolcodgaaGreatB17
import Derived.Deep.RegionHeld3
import Derived.Deep.DeepCutAuto
import Derived.Test.YtfiaokkolcodgaaGreatB44
import Derived.Test.YtfiaokkolcodgaaGreatB28
import Derived.Test.YtfiaokkolcodgaaGreatB46
set_option maxHeartbeats 16000000
set_option maxRecDepth 20000
namespace Go.Proofs.YtfiaokkolcodgaaGreat
open Go.RowKit
set_option linter.unusedVariables false
set_option linter.unusedSimpArgs false
abbrev zcCtD : Value := .agg #[.int .i64 0, .int .i64 0, .int .i64 0, .int .i64 0, .int .i64 0]
theorem infoCtD : (Tryz.prog.info? 39).map (fun i => (i.zero, i.size, i.bytes)) = some (some zcCtD, 5, 40) := by kernel_rfl
theorem neBC : 35 ≠ 39 := by decide
theorem own_dis {w : World} {B t t' k k' n n' : Nat} {v v' : Value} {U U' : Nat → Int} (h : OwnL w B t k v n U) (h' : OwnL w B t' k' v' n' U') (ht : t ≠ t') : v.ownBlock = none ∨ v.ownBlock ≠ v'.ownBlock := by
 rcases h.2 with ⟨hv, _⟩ | ⟨g, cap, cur, hv, _, hg, _⟩
 · subst hv; exact .inl rfl
 · refine .inr fun e => ?_
   rcases h'.2 with ⟨hv', _⟩ | ⟨g', cap', cur', hv', _, hg', _⟩
   · subst hv hv'; simp [Value.ownBlock] at e
   · subst hv hv'
     simp only [Value.ownBlock, Option.some.injEq] at e
     subst e
     rw [hg] at hg'
     simp only [Option.some.injEq, Obj.cells.injEq] at hg'
     exact ht hg'.2.1
def DrP (w : World) (e : Ending) (w' : World) : Prop := ∃ (al : Option Addr) (n c : Nat) (U : Nat → Int) (ac : Option Addr) (m cc : Nat) (Ct : Nat → Int), e = .returned (.tuple #[.slice al n c, .slice ac m cc]) ∧ n ≤ 13 ∧ m ≤ 145 ∧ Below w.heap.size w w' ∧ OwnL w' w.heap.size 35 12 (.slice al n c) n U ∧ OwnL w' w.heap.size 39 5 (.slice ac m cc) m Ct
theorem drawPushAll_k (ac0 : Option Addr) (len cap : Nat) (w : World) (hb : Bytes w ac0 len cap) :
 Calls Tryz.prog 5 #[.slice ac0 len cap] w fun e w' => DrP w e w' := by
 have hset := cset_map
 go_enter Tryz.func5, Tryz.ntmps5
 go_upto_region 1 with fail
 go_cut [4] (fun s wc => ∃ rb : Nat, s = .pointer (some ⟨rb, 0, none⟩) ∧ w.heap.size ≤ rb ∧ RS wc rb 0 ∧ Below w.heap.size w wc)
 case first =>
  go_wp2_with (go_at_call 14; refine (l1Open_rb _ _ _ _ hb).mono ?_; rintro e w1 ⟨rfl, hr1, hbel⟩)
  go_meet
  exact ⟨_, rfl, Nat.le_refl _, hr1.rs, hbel⟩
 case rest =>
 obtain ⟨rb, rfl, hlo, hS, hW⟩ := hcut
 have hlt := hS.lt
 go_upto_region 2 with fail
 go_cut [5] (fun s wc => ∃ (B0 : Nat) (al : Option Addr) (n c : Nat) (U : Nat → Int), s = .slice al n c ∧ LN n U ∧ rb < B0 ∧ B0 ≤ wc.heap.size ∧ w.heap.size ≤ B0 ∧ RS wc rb (40000) ∧ Below w.heap.size w wc ∧ OwnL wc B0 35 12 (.slice al n c) n U)
 case first =>
  go_wp2_with (go_at_call 15; refine (l11AnyBodies_k rb 0 _ (by exact hS) (by omega)).mono ?_; rintro e w2 ⟨al, n, c, U, rfl, hL, hD⟩)
  go_meet
  have hr2 := hD.bl.done
  exact ⟨_, al, n, c, U, rfl, hL, hlt, hr2.size, hW.size, hr2.rs.mono (by omega), hW.trans (hr2.old (by omega) hW.size), hD.own⟩
 case rest =>
 clear hS hW hlt
 obtain ⟨B0, al, n, c, U, rfl, hL, hB0, hB1, hB2, hS, hW, hO⟩ := hcut
 have hn13 := hL.1
 obtain ⟨m0, hm0, hm144⟩ := conR_len n U
 go_upto_region 3 with fail
 go_cut [6] (fun s wc => ∃ (ac : Option Addr) (m cc : Nat) (Ct : Nat → Int), s = .slice ac m cc ∧ m ≤ 144 ∧ B0 ≤ wc.heap.size ∧ RS wc rb (40000) ∧ Below w.heap.size w wc ∧ OwnL wc B0 35 12 (.slice al n c) n U ∧ OwnL wc B0 39 5 (.slice ac m cc) m Ct)
 case first =>
  go_wp2_with (go_at_call 16; refine (contactsS_r (R := ofL (conR n U)) rfl al c m0 _ hO.flat (by omega) hm0).mono ?_; rintro e w3 ⟨ac, cc, rfl, hOu⟩)
  go_meet
  have hbu := hOu.bel
  have hC := hOu.own.base (B := B0) hB1
  replace hO := hO.below hbu
  replace hW := hW.trans (hbu.mono hW.size)
  replace hS := (hS.rb.upq hbu hS.lt).rs
  exact ⟨ac, m0, cc, _, rfl, hm144, Nat.le_trans hB1 hbu.size, hS, hW, hO, hC⟩
 case rest =>
 clear hS hW hO hB1 hm0 hm144
 obtain ⟨ac, m, cc, Ct, rfl, hm, hB1, hS, hW, hO, hC⟩ := hcut
 go_upto_region 4 with fail
 go_cut [14] (fun s wc => ∃ v : Int, s = .int .i64 v ∧ B0 ≤ wc.heap.size ∧ RS wc rb (40001) ∧ Below w.heap.size w wc ∧ OwnL wc B0 35 12 (.slice al n c) n U ∧ OwnL wc B0 39 5 (.slice ac m cc) m Ct)
 case first =>
  go_wp2_with (go_at_call 17; refine (pick_s rb (40000) _ _ (by exact hS) (by omega) (by omega) (by omega)).mono ?_; rintro e w2 ⟨v2, rfl, va2, vb2, hr2⟩)
  go_meet
  have hzz := hr2.size
  replace hO := hO.btb (RB.but hr2) hB0
  replace hC := hC.btb (RB.but hr2) hB0
  replace hW := hW.trans (hr2.old (by omega) hW.size)
  replace hS := hr2.rs
  exact ⟨_, rfl, Nat.le_trans hB1 hzz, hS, hW, hO, hC⟩
 case rest =>
 clear hS hW hO hC hB1
 obtain ⟨v, rfl, hB1, hS, hW, hO, hC⟩ := hcut
 have hlb := hS.lt
 by_cases e0 : v = 0
 · have e1 : (v == 0) = true := by simp [e0]
   clear e0
   go_upto_region 6 with fail
   go_wp2_with (first
    | (have _ := hx9; refine wpList_app rfl _ _ _ rfl B0 39 5 40 zcCtD Tryz.underlying24 infoCtD rfl (by decide) (.slice ac m cc) m Ct rfl hC8 (some ⟨w4.heap.size, 0, none⟩) 1 1 (fun jj => [v2 - 1, v3, X, Y, D].getD jj 0) rfl hx9 (by unfold maxLen; omega) (by omega) hbig ?_; intro a7 c7 w7 ho7 hg7; have hO7 := hO8.kept hg7 (own_dis hO8 hC8 neBC); have hW7 := hW8.grown hg7 hW8.size (fun b e => by have := (hC8.lt b e).1; omega))
    | (have _ := hq2; go_at_call 18; refine (l11Hit_s rb (40003) _ (by exact hS) (by omega)).mono ?_; rintro e w4 ⟨X, Y, D, rfl, hN, hr4⟩; have hz4 := hr4.size; replace hO := hO.btb (RB.but hr4) hB0; replace hC := hC.btb (RB.but hr4) hB0; replace hW := hW.trans (hr4.old (by omega) hW.size); replace hS := hr4.rs; have hx9 : Flat (w4.alloc (Obj.cells #[.int .i64 (v2 - 1), .int .i64 v3, .int .i64 X, .int .i64 Y, .int .i64 D] 39)) (some ⟨w4.heap.size, 0, none⟩) (1 * 5) (fun jj => [v2 - 1, v3, X, Y, D].getD jj 0) := fun _ => ⟨_, 0, rfl, by simp, fun j hj => by rw [Nat.zero_add]; rcases (show j = 0 ∨ j = 1 ∨ j = 2 ∨ j = 3 ∨ j = 4 by omega) with rfl | rfl | rfl | rfl | rfl <;> (go_simp; (try rfl))⟩; have hO8 := hO.al (Obj.cells #[.int .i64 (v2 - 1), .int .i64 v3, .int .i64 X, .int .i64 Y, .int .i64 D] 39); have hC8 := hC.al (Obj.cells #[.int .i64 (v2 - 1), .int .i64 v3, .int .i64 X, .int .i64 Y, .int .i64 D] 39); have hW8 := hW.alloc hW.size (Obj.cells #[.int .i64 (v2 - 1), .int .i64 v3, .int .i64 X, .int .i64 Y, .int .i64 D] 39); have hbig : B0 ≤ (w4.alloc (Obj.cells #[.int .i64 (v2 - 1), .int .i64 v3, .int .i64 X, .int .i64 Y, .int .i64 D] 39)).heap.size := (by simp only [World.size_alloc]; omega))
    | (have _ := hq1; go_at_call 17; refine (pick_s rb (40002) _ _ (by exact hS) (by omega) (by omega) (by omega)).mono ?_; rintro e w3 ⟨v3, rfl, va3, vb3, hr3⟩; have hq2 := True.intro; have hz3 := hr3.size; replace hO := hO.btb (RB.but hr3) hB0; replace hC := hC.btb (RB.but hr3) hB0; replace hW := hW.trans (hr3.old (by omega) hW.size); replace hS := hr3.rs)
    | (go_at_call 17; refine (pick_s rb (40001) _ _ (by exact hS) (by omega) (by omega) (by omega)).mono ?_; rintro e w2 ⟨v2, rfl, va2, vb2, hr2⟩; have hq1 := True.intro; have hz2 := hr2.size; replace hO := hO.btb (RB.but hr2) hB0; replace hC := hC.btb (RB.but hr2) hB0; replace hW := hW.trans (hr2.old (by omega) hW.size); replace hS := hr2.rs; have hw2 : IntKind.i64.wrap (v2 - 1) = v2 - 1 := i64w (by omega)))
   go_ret2
   unfold DrP
   exact ⟨al, n, c, U, a7, _, c7, _, rfl, hL.1, (by omega), hW7, hO7.base (by omega), ho7.base (by omega)⟩
 · have e1 : (v == 0) = false := by simp [e0]
   clear e0
   by_cases e2 : v = 1
   · have e3 : (v == 1) = true := by simp [e2]
     clear e2
     by_cases hn1 : 1 < n
     · have hni : (1 : Int) < (n : Int) := by omega
       go_upto_region 9 with fail
       go_wp2_with (first | (have _ := hx9; refine wpList_app rfl _ _ _ rfl B0 39 5 40 zcCtD Tryz.underlying24 infoCtD rfl (by decide) (.slice ac m cc) m Ct rfl hC8 (some ⟨w4.heap.size, 0, none⟩) 1 1 (fun jj => [1, 0, X, Y, D].getD jj 0) rfl hx9 (by unfold maxLen; omega) (by omega) hbig ?_; intro a7 c7 w7 ho7 hg7; have hO7 := hO8.kept hg7 (own_dis hO8 hC8 neBC); have hW7 := hW8.grown hg7 hW8.size (fun b e => by have := (hC8.lt b e).1; omega)) | (go_at_call 18; refine (l11Hit_s rb (40001) _ (by exact hS) (by omega)).mono ?_; rintro e w4 ⟨X, Y, D, rfl, hN, hr4⟩; have hz4 := hr4.size; replace hO := hO.btb (RB.but hr4) hB0; replace hC := hC.btb (RB.but hr4) hB0; replace hW := hW.trans (hr4.old (by omega) hW.size); replace hS := hr4.rs; have hx9 : Flat (w4.alloc (Obj.cells #[.int .i64 1, .int .i64 0, .int .i64 X, .int .i64 Y, .int .i64 D] 39)) (some ⟨w4.heap.size, 0, none⟩) (1 * 5) (fun jj => [1, 0, X, Y, D].getD jj 0) := fun _ => ⟨_, 0, rfl, by simp, fun j hj => by rw [Nat.zero_add]; rcases (show j = 0 ∨ j = 1 ∨ j = 2 ∨ j = 3 ∨ j = 4 by omega) with rfl | rfl | rfl | rfl | rfl <;> (go_simp; (try rfl))⟩; have hO8 := hO.al (Obj.cells #[.int .i64 1, .int .i64 0, .int .i64 X, .int .i64 Y, .int .i64 D] 39); have hC8 := hC.al (Obj.cells #[.int .i64 1, .int .i64 0, .int .i64 X, .int .i64 Y, .int .i64 D] 39); have hW8 := hW.alloc hW.size (Obj.cells #[.int .i64 1, .int .i64 0, .int .i64 X, .int .i64 Y, .int .i64 D] 39); have hbig : B0 ≤ (w4.alloc (Obj.cells #[.int .i64 1, .int .i64 0, .int .i64 X, .int .i64 Y, .int .i64 D] 39)).heap.size := (by simp only [World.size_alloc]; omega)))
       go_ret2
       unfold DrP
       exact ⟨al, n, c, U, a7, _, c7, _, rfl, hL.1, (by omega), hW7, hO7.base (by omega), ho7.base (by omega)⟩
     · have hni : ¬ (1 : Int) < (n : Int) := by omega
       go_wp2_with fail
       go_ret2
       unfold DrP
       exact ⟨al, n, c, U, ac, m, cc, Ct, rfl, hL.1, (by omega), hW, hO.base (by omega), hC.base (by omega)⟩
   · have e3 : (v == 1) = false := by simp [e2]
     go_wp2_with fail
     go_ret2
     unfold DrP
     exact ⟨al, n, c, U, ac, m, cc, Ct, rfl, hL.1, (by omega), hW, hO.base (by omega), hC.base (by omega)⟩
theorem goPush {w : World} {rb g m c cb n : Nat} {C U : Nat → Int} {S : Nat → Value} (bo : Bool) (hR0 : Rg w rb g m c cb C 0) (hC0 : Cs w cb n (colOf U) S) (hm : m ≤ 1048576) (hn : n ≤ 1048576) (hbb : Bods n U) (ct : CtOk n m C) (hrb : ¬ Xc S rb) (hg : ¬ Xc S g) (hcb : ¬ cb = rb) :
 Calls Tryz.prog 38 #[.pointer (some ⟨rb, 0, none⟩), (.func (.func 39) #[.agg #[.bool bo]] #[])] w fun e w' => e = .returned (.tuple #[]) ∧ Rg w' rb g m c cb C 0 ∧ Cs w' cb n (colOf (rndN C bo U m)) S ∧ Fr (fun b => Xc S b ∨ b = rb) w w' := by
 have hset := cset_map
 have hxr : ∀ b, Xc S b → ¬ b = rb := fun b hb e => hrb (e ▸ hb)
 have c0 := hR0.c0
 go_enter Tryz.func38, Tryz.ntmps38
 go_upto_region 1 with fail
 go_loopw [9] (fun s wr => ∃ k : Nat, k ≤ m ∧ s = .int .i64 (k : Int) ∧ Rg wr rb g m c cb C (k % m) ∧ Cs wr cb n (colOf (rndN C bo U k)) S ∧ Fr (fun b => Xc S b ∨ b = rb) w wr) (fun s _ => m - (intOf s).toNat)
 case atStart => exact ⟨0, Nat.zero_le _, rfl, by rw [Nat.zero_mod]; exact hR0, hC0, Fr.refl _ _⟩
 case round =>
  clear hR0 hC0 c0
  obtain ⟨k, hk, rfl, hR, hC, hF⟩ := hrel
  by_cases hlt : k < m
  · have hkm : (k : Int) < (m : Int) := by omega
    rw [Nat.mod_eq_of_lt hlt] at hR
    have ca := ct.a k hlt
    have cb_ := ct.b k hlt
    have cn := ct.ne k hlt
    have cx := ct.x k hlt
    have cy := ct.y k hlt
    have cd := ct.d k hlt
    have hB := (hbb.rnd ct bo k hk).1
    have HN : Shut (rndN C bo U (k + 1) = oneU (rndN C bo U k) (C (k * 5)).toNat (C (k * 5 + 1)).toNat (C (k * 5 + 2)) (C (k * 5 + 3)) bo) := by show _ = _; rw [rndN]
    obtain ⟨A, hA⟩ : ∃ A : Nat, C (k * 5) = (A : Int) := ⟨(C (k * 5)).toNat, by omega⟩
    obtain ⟨B, hBB⟩ : ∃ B : Nat, C (k * 5 + 1) = (B : Int) := ⟨(C (k * 5 + 1)).toNat, by omega⟩
    rw [hA, hBB, Int.toNat_natCast, Int.toNat_natCast] at HN
    rw [hA] at ca cn
    rw [hBB] at cb_ cn
    go_wp2_with (first
     | (have _ := hF4; go_at_call 39; refine (mPush _ _ _ bo (hC.frame hF4 hcb hxr) hn (by omega) (by omega) (by omega) (hB.row (by omega)) (hB.row (by omega)) cx cy).mono ?_; rintro e w5 ⟨rfl, hC5, hF5⟩)
     | (go_at_call 62; refine (take_q (j := k) hR hlt hm _ _ _ _ _ rfl rfl rfl hA hBB).mono ?_; rintro e w4 ⟨rfl, hR4, hF4⟩))
    have hF9 : Fr (fun b => Xc S b ∨ b = rb) w w5 := (hF.trans (hF4.mono fun _ _ e => .inr e)).trans (hF5.mono fun _ _ e => .inl e)
    have hR9 := hR4.fr hF5 hrb hg
    go_roundw
    case rel => exact ⟨k + 1, by omega, by go_num, hR9, by rw [HN.out]; exact hC5, hF9⟩
    case measure => simp [intOf]; omega
  · obtain rfl : k = m := by omega
    rw [Nat.mod_self] at hR
    go_wp2_with fail
    go_end0
    exact ⟨rfl, hR, hC, hF⟩
theorem goPush0 {w : World} {rb c : Nat} (bo : Bool) (c0 : w.cell? ⟨rb, 0, none⟩ = some (.slice none 0 c)) :
 Calls Tryz.prog 38 #[.pointer (some ⟨rb, 0, none⟩), (.func (.func 39) #[.agg #[.bool bo]] #[])] w fun e w' => e = .returned (.tuple #[]) ∧ w' = w := by
 go_enter Tryz.func38, Tryz.ntmps38
 go_upto_region 1 with fail
 refine wp_loop_rounds 1 ?_
 rw [rounds_succ]
 go_wp2_with fail
 go_end0
 exact ⟨rfl, rfl⟩
theorem pushAll_0 {w : World} {rb c : Nat} (c0 : w.cell? ⟨rb, 0, none⟩ = some (.slice none 0 c)) :
 Calls Tryz.prog 20 #[.pointer (some ⟨rb, 0, none⟩)] w fun e w' => e = .returned (.tuple #[]) ∧ w' = w := by
 go_enter Tryz.func20, Tryz.ntmps20
 go_wp2
 go_loopw [3] (fun s wr => ∃ r : Nat, r ≤ 4 ∧ s = .int .i64 (r : Int) ∧ wr = w) (fun s _ => 4 - (intOf s).toNat)
 case atStart => exact ⟨0, by omega, rfl, rfl⟩
 case round =>
  obtain ⟨r, hr, rfl, rfl⟩ := hrel
  by_cases hlt : r < 4
  · have h1 : (r : Int) < 4 := by omega
    go_wp2_with (go_at_call 38; refine (goPush0 _ c0).mono ?_; rintro e w1 ⟨rfl, rfl⟩)
    go_roundw
    case rel => exact ⟨r + 1, by omega, by go_num, by first | rfl | trivial⟩
    case measure => simp [intOf]; omega
  · have h1 : ¬ (r : Int) < 4 := by omega
    go_wp2
    go_end0
    exact ⟨rfl, rfl⟩
theorem pushAll_q {w : World} {rb g m c cb n : Nat} {C U : Nat → Int} {S : Nat → Value} (hR0 : Rg w rb g m c cb C 0) (hC0 : Cs w cb n (colOf U) S) (hm : m ≤ 1048576) (hn : n ≤ 1048576) (hbb : Bods n U) (ct : CtOk n m C) (hrb : ¬ Xc S rb) (hg : ¬ Xc S g) (hcb : ¬ cb = rb) :
 Calls Tryz.prog 20 #[.pointer (some ⟨rb, 0, none⟩)] w fun e w' => e = .returned (.tuple #[]) ∧ Cs w' cb n (colOf (allN C U m 4)) S ∧ Fr (fun b => Xc S b ∨ b = rb) w w' := by
 go_enter Tryz.func20, Tryz.ntmps20
 go_wp2
 go_loopw [3] (fun s wr => ∃ r : Nat, r ≤ 4 ∧ s = .int .i64 (r : Int) ∧ Rg wr rb g m c cb C 0 ∧ Cs wr cb n (colOf (allN C U m r)) S ∧ Fr (fun b => Xc S b ∨ b = rb) w wr) (fun s _ => 4 - (intOf s).toNat)
 case atStart => exact ⟨0, by omega, rfl, hR0, hC0, Fr.refl _ _⟩
 case round =>
  clear hR0 hC0
  obtain ⟨r, hr, rfl, hR, hC, hF⟩ := hrel
  have hB := (hbb.all ct r).1
  by_cases hlt : r < 4
  · have h1 : (r : Int) < 4 := by omega
    have HN : Shut (allN C U m (r + 1) = rndN C (((r : Nat) : Int) == 0) (allN C U m r) m) := by show _ = _; rw [allN]
    go_wp2_with (go_at_call 38; refine (goPush _ hR hC hm hn hB ct hrb hg hcb).mono ?_; rintro e w1 ⟨rfl, hR1, hC1, hF1⟩)
    go_roundw
    case rel => exact ⟨r + 1, by omega, by go_num, hR1, by rw [HN.out]; exact hC1, hF.trans hF1⟩
    case measure => simp [intOf]; omega
  · have h1 : ¬ (r : Int) < 4 := by omega
    obtain rfl : r = 4 := by omega
    go_wp2
    go_end0
    exact ⟨rfl, hC, hF⟩
theorem pushAll_m {w wr : World} {cb n rb m : Nat} {U C : Nat → Int} {S : Nat → Value} {v : Value} (h : Mo w wr cb n rb m U C S v) (hcb : cb < rb) (hxr : ∀ b, Xc S b → b < rb) (hm : m ≤ 1048576) (hn : n ≤ 1048576) (hbb : Bods n U) (ct : CtOk n m C) :
 Calls Tryz.prog 20 #[.pointer (some ⟨rb, 0, none⟩)] wr fun e w' => e = .returned (.tuple #[]) ∧ Cs w' cb n (colOf (allN C U m 4)) S ∧ Fr (fun b => Xc S b ∨ b = rb) wr w' := by
 rcases h.ml.is with ⟨rfl, rfl⟩ | ⟨g, c, rfl⟩
 · refine (pushAll_0 h.r0).mono ?_
   rintro e w' ⟨rfl, rfl⟩
   have e4 : allN C U 0 4 = U := rfl
   exact ⟨rfl, by rw [e4]; exact h.cs, Fr.refl _ _⟩
 · have hg := (h.ml.lt g rfl).1
   exact pushAll_q (h.ml.rg h.r0 h.r1 h.f1 (by omega)) h.cs hm hn hbb ct (fun x => by have := hxr _ x; omega) (fun x => by have := hxr _ x; omega) (by omega)
theorem pushAll_i (a : Option Addr) (n c : Nat) (U : Nat → Int) (ac : Option Addr) (m cc : Nat) (Ct : Nat → Int) (w : World) (h : Flat w a (n * 12) U) (hn : n ≤ 1048576) (h2 : Flat w ac (m * 5) Ct) (hm : m ≤ 1048576) (N : Nat) (hN : (bif bcB n m U Ct then n else 0) = N) :
 Calls Tryz.prog 6 #[.slice a n c, .slice ac m cc] w fun e w' => ∃ a1 c1, e = .returned (.slice a1 N c1) ∧ OutL w w' 35 12 a1 N c1 (allN Ct U m 4) := by
 have hset := cset_map
 cases hk : bcB n m U Ct with
 | false =>
  rw [hk, cond_false] at hN
  subst hN
  go_enter Tryz.func6, Tryz.ntmps6
  go_wp2_with (go_at_call 19; refine (meetingsOf_f a n c U ac m cc Ct _ h hn h2 hm hk).mono ?_; rintro e w1 ⟨rfl, hb1⟩)
  go_ret
  exact ⟨none, 0, rfl, hb1, OwnL.nil _ _ _ _ _⟩
 | true =>
  rw [hk, cond_true] at hN
  subst hN
  have hk2 := hk
  unfold bcB at hk2
  simp only [Bool.and_eq_true] at hk2
  have hbb := Bods.of hk2.1.1
  have hct := ctOk hk2.2
  clear hk2
  go_enter Tryz.func6, Tryz.ntmps6
  go_wp2_with (first
  | (go_at_call 21; refine (list_any cb n _ S _ hC2 hbb.le).mono ?_; rintro e w3 ⟨a3, c3, rfl, hO3⟩)
  | (go_at_call 20; refine (pushAll_m hM hcr hxr hm hn hbb hct).mono ?_; rintro e w2 ⟨rfl, hC2, hF2⟩)
  | (go_at_call 19; refine (meetingsOf_t a n c U ac m cc Ct _ h hn h2 hm hk).mono ?_; rintro e w1 ⟨cb, rb, S, v, rfl, hcb, hcr, hxr, hM⟩))
  go_ret
  have hbw := hM.bel
  have hB2 : Below w.heap.size w w2 := hbw.trans (hF2.below hbw.size (fun b x => by rcases x with x | x; (have := (hM.cs.xlt x).1; omega); omega))
  refine ⟨a3, c3, rfl, hB2.trans (hO3.bel.mono hB2.size), (hO3.own.base hB2.size).congr fun q hq => ?_⟩
  show allN Ct U m 4 (q / 12 * 12 + q % 12) = _
  rw [Nat.div_add_mod' q 12]
theorem pushAll_ir {n m : Nat} {U Ct R : Nat → Int} (hR : R = allN Ct U m 4) (a : Option Addr) (c : Nat) (ac : Option Addr) (cc : Nat) (w : World) (h : Flat w a (n * 12) U) (hn : n ≤ 1048576) (h2 : Flat w ac (m * 5) Ct) (hm : m ≤ 1048576) (N : Nat) (hN : (bif bcB n m U Ct then n else 0) = N) :
 Calls Tryz.prog 6 #[.slice a n c, .slice ac m cc] w fun e w' => ∃ a1 c1, e = .returned (.slice a1 N c1) ∧ OutL w w' 35 12 a1 N c1 R := by subst hR; exact pushAll_i a n c U ac m cc Ct w h hn h2 hm N hN
theorem pushAll_sr {n m : Nat} {U Ct R : Nat → Int} (hR : R = allN Ct U m 4) (a : Option Addr) (c : Nat) (ac : Option Addr) (cc : Nat) (w : World) (h : Flat w a (n * 12) U) (hn : n ≤ 1048576) (h2 : Flat w ac (m * 5) Ct) (hm : m ≤ 1048576) (N : Nat) (hN : (bif bcB n m U Ct then n else 0) = N) :
 Calls Tryz.prog 8 #[.slice a n c, .slice ac m cc] w fun e w' => ∃ a1 c1, e = .returned (.slice a1 N c1) ∧ OutL w w' 35 12 a1 N c1 R := by subst hR; exact pushAll_s a n c U ac m cc Ct w h hn h2 hm N hN
theorem bc_ok {n m : Nat} {U C : Nat → Int} (h : bcB n m U C = true) : CtOk n m C := by
 unfold bcB at h
 simp only [Bool.and_eq_true] at h
 exact ctOk h.2
end Go.Proofs.YtfiaokkolcodgaaGreat
