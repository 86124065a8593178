/- Texts of a proof. -/
import Derived.Test.YthijeiehcdoidaaGreatDrawX
import Derived.Test.YthijeiehcdoidaaGreatB43
import Derived.Test.YthijeiehcdoidaaGreatB18
import Derived.Deep.RegionHeld3
import Derived.Deep.DeepCutAuto
set_option maxHeartbeats 16000000
set_option maxRecDepth 20000
namespace Go.Proofs.YthijeiehcdoidaaGreat
open Go.RowKit
set_option linter.unusedVariables false
set_option linter.unusedSimpArgs false
def DrR (w : World) (e : Ending) (w' : World) : Prop := ∃ (T P : Int) (a : Option Addr) (n c : Nat) (U : Nat → Int) (a' : Option Addr) (m c' : Nat) (Q : Nat → Int) (x y u v : Int), e = .returned (.tuple #[worldW T P a n c a' m c', b4 x y u v]) ∧ n ≤ 13 ∧ m ≤ 433 ∧ Below w.heap.size w w' ∧ OwnL w' w.heap.size 41 12 (.slice a n c) n U ∧ OwnL w' w.heap.size 58 2 (.slice a' m c') m Q
theorem drawWorldRay_k (ac : Option Addr) (len cap : Nat) (w : World) (hb : Bytes w ac len cap) :
 Calls Tryz.prog 5 #[.slice ac len cap] w fun e w' => DrR w e w' := by
 have hset := cset_map
 have hE : Below w.heap.size w ((w.alloc (.cells #[.int .i64 0, .int .i64 0, .slice none 0 0, .slice none 0 0] 26)).alloc (.cells #[.int .i64 0, .int .i64 0, .int .i64 0, .int .i64 0] 30)) := ((Below.refl _ _).alloc (Nat.le_refl _) _).alloc (by simp) _
 have hb0 := hb.below hE
 have hz : ((w.alloc (.cells #[.int .i64 0, .int .i64 0, .slice none 0 0, .slice none 0 0] 26)).alloc (.cells #[.int .i64 0, .int .i64 0, .int .i64 0, .int .i64 0] 30)).heap.size = w.heap.size + 2 := by simp
 have hA : Blk ((w.alloc (.cells #[.int .i64 0, .int .i64 0, .slice none 0 0, .slice none 0 0] 26)).alloc (.cells #[.int .i64 0, .int .i64 0, .int .i64 0, .int .i64 0] 30)) w.heap.size #[.int .i64 0, .int .i64 0, .slice none 0 0, .slice none 0 0] 26 := (Blk.new w _ _).al _
 have hB : Blk ((w.alloc (.cells #[.int .i64 0, .int .i64 0, .slice none 0 0, .slice none 0 0] 26)).alloc (.cells #[.int .i64 0, .int .i64 0, .int .i64 0, .int .i64 0] 30)) (w.heap.size + 1) #[.int .i64 0, .int .i64 0, .int .i64 0, .int .i64 0] 30 := by have q := Blk.new (w.alloc (.cells #[.int .i64 0, .int .i64 0, .slice none 0 0, .slice none 0 0] 26)) #[.int .i64 0, .int .i64 0, .int .i64 0, .int .i64 0] 30; rw [World.size_alloc] at q; exact q
 go_enter Tryz.func5, Tryz.ntmps5
 go_upto_region 1 with fail
 generalize ((w.alloc (.cells #[.int .i64 0, .int .i64 0, .slice none 0 0, .slice none 0 0] 26)).alloc (.cells #[.int .i64 0, .int .i64 0, .int .i64 0, .int .i64 0] 30)) = w0 at hE hb0 hz hA hB ⊢
 go_cut [4] (fun s wc => ∃ rb : Nat, s = .pointer (some ⟨rb, 0, none⟩) ∧ w.heap.size + 2 ≤ rb ∧ RS wc rb (0) ∧ Below w.heap.size w wc ∧ Blk wc (w.heap.size) #[.int .i64 0, .int .i64 0, .slice none 0 0, .slice none 0 0] 26 ∧ Blk wc (w.heap.size + 1) #[.int .i64 0, .int .i64 0, .int .i64 0, .int .i64 0] 30)
 case first =>
  go_wp2_with (go_at_call 16; refine (l1Open_rb _ _ _ _ hb0).mono ?_; rintro e w1 ⟨rfl, hr1, hbel⟩)
  go_meet
  rw [hz] at hr1
  exact ⟨_, rfl, by omega, hr1.rs, hE.trans (hbel.mono hE.size), hA.on hbel, hB.on hbel⟩
 case rest =>
 clear hE hb0 hz hA hB
 obtain ⟨rb, rfl, hlo, hS, hW, hA, hB⟩ := hcut
 have hlt := hS.lt
 go_upto_region 2 with fail
 go_cut [5] (fun s wc => ∃ (vb B0 : Nat) (T P : Int) (a : Option Addr) (n c : Nat) (U : Nat → Int) (a' : Option Addr) (m c' : Nat) (Q : Nat → Int), s = .pointer (some ⟨vb, 0, none⟩) ∧ (n ≤ 13 ∧ m ≤ 433) ∧ rb < B0 ∧ B0 ≤ vb ∧ RS wc rb (71100) ∧ Below w.heap.size w wc ∧ Blk wc (w.heap.size) #[.int .i64 0, .int .i64 0, .slice none 0 0, .slice none 0 0] 26 ∧ Blk wc (w.heap.size + 1) #[.int .i64 0, .int .i64 0, .int .i64 0, .int .i64 0] 30 ∧ Blk wc (vb) #[.int .i64 T, .int .i64 P, .slice a n c, .slice a' m c'] 26 ∧ OwnL wc B0 41 12 (.slice a n c) n U ∧ OwnL wc B0 58 2 (.slice a' m c') m Q)
 case first =>
  go_wp2_with (go_at_call 17; refine (l11AnyWorld_w rb 0 _ (by exact hS) (by omega)).mono ?_; rintro e w1 ⟨T, P, a, n, c, U, a', m, c', Q, rfl, hnm, hD⟩)
  go_meet
  have hr1 := RB.mk hD.but hD.rs
  have hO := hD.ob
  have hQ := hD.op
  have hszz := hD.sz
  replace hA := hA.but (RB.but hr1) (by omega)
  replace hB := hB.but (RB.but hr1) (by omega)
  replace hW := hW.trans (hr1.old (by omega) hW.size)
  replace hS := hr1.rs
  replace hA := hA.al (.cells #[.int .i64 T, .int .i64 P, .slice a n c, .slice a' m c'] 26)
  replace hB := hB.al (.cells #[.int .i64 T, .int .i64 P, .slice a n c, .slice a' m c'] 26)
  replace hW := hW.alloc hW.size (.cells #[.int .i64 T, .int .i64 P, .slice a n c, .slice a' m c'] 26)
  replace hS := hS.alloc (.cells #[.int .i64 T, .int .i64 P, .slice a n c, .slice a' m c'] 26)
  exact ⟨_, _, T, P, a, n, c, U, a', m, c', Q, rfl, hnm, Nat.lt_succ_of_lt hlt, hszz, hS.mono (by omega), hW, hA, hB, Blk.new _ _ _, hO.al _, hQ.al _⟩
 case rest =>
 clear hS hW hA hB hlt
 obtain ⟨vb, B0, T, P, a, n, c, U, a', m, c', Q, rfl, hnm, hB0, hvb, hS, hW, hA, hB, hV, hO, hQ⟩ := hcut
 go_upto_region 3 with fail
 go_cut [6] (fun s wc => ∃ (xb : Nat) (V : Nat → Int), s = .pointer (some ⟨xb, 0, none⟩) ∧ vb < xb ∧ RS wc rb (73100) ∧ Below w.heap.size w wc ∧ Blk wc (w.heap.size) #[.int .i64 0, .int .i64 0, .slice none 0 0, .slice none 0 0] 26 ∧ Blk wc (w.heap.size + 1) #[.int .i64 0, .int .i64 0, .int .i64 0, .int .i64 0] 30 ∧ Blk wc (vb) #[.int .i64 T, .int .i64 P, .slice a n c, .slice a' m c'] 26 ∧ Blk wc (xb) #[.int .i64 (V 0), .int .i64 (V 1), .int .i64 (V 2), .int .i64 (V 3)] 30 ∧ OwnL wc B0 41 12 (.slice a n c) n U ∧ OwnL wc B0 58 2 (.slice a' m c') m Q)
 case first =>
  go_wp2_with (go_at_call 18; refine (l11Ray_s rb 71100 _ (by exact hS) (by omega)).mono ?_; rintro e w1 ⟨V, rfl, hRN, hr1⟩)
  go_meet
  replace hA := hA.but (RB.but hr1) (by omega)
  replace hB := hB.but (RB.but hr1) (by omega)
  replace hV := hV.but (RB.but hr1) (by omega)
  replace hO := hO.btb (RB.but hr1) hB0
  replace hQ := hQ.btb (RB.but hr1) hB0
  replace hW := hW.trans (hr1.old (by omega) hW.size)
  replace hS := hr1.rs
  have hxb := hV.lt
  replace hA := hA.al (.cells #[.int .i64 (V 0), .int .i64 (V 1), .int .i64 (V 2), .int .i64 (V 3)] 30)
  replace hB := hB.al (.cells #[.int .i64 (V 0), .int .i64 (V 1), .int .i64 (V 2), .int .i64 (V 3)] 30)
  replace hV := hV.al (.cells #[.int .i64 (V 0), .int .i64 (V 1), .int .i64 (V 2), .int .i64 (V 3)] 30)
  replace hO := hO.al (.cells #[.int .i64 (V 0), .int .i64 (V 1), .int .i64 (V 2), .int .i64 (V 3)] 30)
  replace hQ := hQ.al (.cells #[.int .i64 (V 0), .int .i64 (V 1), .int .i64 (V 2), .int .i64 (V 3)] 30)
  replace hW := hW.alloc hW.size (.cells #[.int .i64 (V 0), .int .i64 (V 1), .int .i64 (V 2), .int .i64 (V 3)] 30)
  replace hS := hS.alloc (.cells #[.int .i64 (V 0), .int .i64 (V 1), .int .i64 (V 2), .int .i64 (V 3)] 30)
  exact ⟨_, V, rfl, hxb, hS.mono (by omega), hW, hA, hB, hV, Blk.new _ _ _, hO, hQ⟩
 case rest =>
 clear hS hW hA hB hV hO hQ
 obtain ⟨xb, V, rfl, hxb, hS, hW, hA, hB, hV, hX, hO, hQ⟩ := hcut
 have hn13 := hnm.1
 rename_i hKK
 refine hKK _ _ ?_
 refine wp_seq_k (fun K8 hK8 => ?_)
 go_cut [] (fun wc => ∃ V : Nat → Int, RS wc rb (73110) ∧ Below w.heap.size w wc ∧ Blk wc (w.heap.size) #[.int .i64 0, .int .i64 0, .slice none 0 0, .slice none 0 0] 26 ∧ Blk wc (w.heap.size + 1) #[.int .i64 0, .int .i64 0, .int .i64 0, .int .i64 0] 30 ∧ Blk wc (vb) #[.int .i64 T, .int .i64 P, .slice a n c, .slice a' m c'] 26 ∧ Blk wc (xb) #[.int .i64 (V 0), .int .i64 (V 1), .int .i64 (V 2), .int .i64 (V 3)] 30 ∧ OwnL wc B0 41 12 (.slice a n c) n U ∧ OwnL wc B0 58 2 (.slice a' m c') m Q)
 case first =>
  have hVc2 := hV.cell 2 rfl
  go_upto_region 4 with fail
  go_cut [22] (fun s wc => ∃ z : Bool, s = .bool z ∧ (z = true → 0 < n) ∧ RS wc rb (73103) ∧ Below w.heap.size w wc ∧ Blk wc (w.heap.size) #[.int .i64 0, .int .i64 0, .slice none 0 0, .slice none 0 0] 26 ∧ Blk wc (w.heap.size + 1) #[.int .i64 0, .int .i64 0, .int .i64 0, .int .i64 0] 30 ∧ Blk wc (vb) #[.int .i64 T, .int .i64 P, .slice a n c, .slice a' m c'] 26 ∧ Blk wc (xb) #[.int .i64 (V 0), .int .i64 (V 1), .int .i64 (V 2), .int .i64 (V 3)] 30 ∧ OwnL wc B0 41 12 (.slice a n c) n U ∧ OwnL wc B0 58 2 (.slice a' m c') m Q)
  case first =>
   by_cases hn0 : 0 < n
   · have e1 : (0 : Int) < (n : Int) := by omega
     go_wp2_with (go_at_call 19; refine (pick_s rb (73100) _ _ (by exact hS) (by omega) (by omega) (by omega)).mono ?_; rintro e w2 ⟨v2, rfl, va2, vb2, hr2⟩)
     go_meet
     replace hA := hA.but (RB.but hr2) (by omega)
     replace hB := hB.but (RB.but hr2) (by omega)
     replace hV := hV.but (RB.but hr2) (by omega)
     replace hX := hX.but (RB.but hr2) (by omega)
     replace hO := hO.btb (RB.but hr2) hB0
     replace hQ := hQ.btb (RB.but hr2) hB0
     replace hW := hW.trans (hr2.old (by omega) hW.size)
     replace hS := hr2.rs
     exact ⟨_, rfl, fun _ => hn0, hS.mono (by omega), hW, hA, hB, hV, hX, hO, hQ⟩
   · have e1 : ¬ (0 : Int) < (n : Int) := by omega
     go_wp2_with fail
     go_meet
     exact ⟨false, rfl, (fun e => by cases e), hS.mono (by omega), hW, hA, hB, hV, hX, hO, hQ⟩
  case rest =>
  clear hS hW hA hB hV hX hO hQ hVc2
  obtain ⟨z, rfl, hz, hS, hW, hA, hB, hV, hX, hO, hQ⟩ := hcut
  cases z with
  | false =>
   go_wp2_with fail
   go_meet
   exact ⟨V, hS.mono (by omega), hW, hA, hB, hV, hX, hO, hQ⟩
  | true =>
   have hn0 := hz rfl
   have hn1 : (1 : Int) ≤ (n : Int) := by omega
   obtain ⟨g, rfl, hg1, hg2⟩ := hO.loc hn0
   clear hg2
   have hVc2 := hV.cell 2 rfl
   go_upto_region 5 with fail
   go_cut [7] (fun s wc => ∃ (yb : Nat) (y0 y1 : Int), s = .pointer (some ⟨yb, 0, none⟩) ∧ xb < yb ∧ RS wc rb (73104) ∧ Below w.heap.size w wc ∧ Blk wc (w.heap.size) #[.int .i64 0, .int .i64 0, .slice none 0 0, .slice none 0 0] 26 ∧ Blk wc (w.heap.size + 1) #[.int .i64 0, .int .i64 0, .int .i64 0, .int .i64 0] 30 ∧ Blk wc (vb) #[.int .i64 T, .int .i64 P, .slice (some ⟨g, 0, none⟩) n c, .slice a' m c'] 26 ∧ Blk wc (xb) #[.int .i64 (V 0), .int .i64 (V 1), .int .i64 (V 2), .int .i64 (V 3)] 30 ∧ Blk wc (yb) #[.int .i64 y0, .int .i64 y1] 28 ∧ OwnL wc B0 41 12 (.slice (some ⟨g, 0, none⟩) n c) n U ∧ OwnL wc B0 58 2 (.slice a' m c') m Q)
   case first =>
    refine wp_region_held_drew (S := fun w' => w'.cell? ⟨vb, 2, none⟩ = some (.slice (some ⟨g, 0, none⟩) n c)) (by kernel_rfl) ?_ (fun hHeld => ?_)
    · (try dsimp only)
      (first | (go_simp; done) | (go_keep; done))
    refine tq 0 hHeld ?_
    refine tq 1 hHeld ?_
    refine tq 2 hHeld ?_
    refine tq 3 hHeld ?_
    refine tq 4 hHeld ?_
    refine tq 5 hHeld ?_
    refine wpAnyH_ready (rs := [6, 10]) (by kernel_rfl) (by simp) ?_
    refine AllReadyH.cons rfl (fun K hK => ?_) (AllReadyH.cons rfl (fun K hK => ?_) AllReadyH.nil)
    · (go_simp
       replace hA := hA.dr
       replace hB := hB.dr
       replace hV := hV.dr
       replace hX := hX.dr
       replace hO := hO.dr
       replace hQ := hQ.dr
       replace hW := hW.drew
       replace hS := hS.drew
       (go_at_call 19; refine (pick_s rb (73103) _ _ (by exact hS) (by omega) (by omega) (by omega)).mono ?_; rintro e w6 ⟨v6, rfl, va6, vb6, hr6⟩)
       obtain ⟨j, hj⟩ : ∃ j : Nat, v6 = (j : Int) := ⟨v6.toNat, by omega⟩
       subst hj
       have hjn : j < n := (by omega)
       replace hA := hA.but (RB.but hr6) (by omega)
       replace hB := hB.but (RB.but hr6) (by omega)
       replace hV := hV.but (RB.but hr6) (by omega)
       replace hX := hX.but (RB.but hr6) (by omega)
       replace hO := hO.btb (RB.but hr6) hB0
       replace hQ := hQ.btb (RB.but hr6) hB0
       replace hW := hW.trans (hr6.old (by omega) hW.size)
       replace hS := hr6.rs
       clear hVc2
       have hVc2 := hV.cell 2 rfl
       (try go_wp2_with fail)
       refine tr hK (fun hHeld => ?_)
       clear hK K)
      refine tq 7 hHeld ?_
      refine tq 8 hHeld ?_
      refine wpAnyH_ready (rs := [9, 10]) (by kernel_rfl) (by simp) ?_
      refine AllReadyH.cons rfl (fun K hK => ?_) (AllReadyH.cons rfl (fun K hK => ?_) AllReadyH.nil)
      · (have u4 := hO.cellq (q := j * 12 + 4) (by omega)
         have u5 := hO.cellq (q := j * 12 + 5) (by omega)
         go_simp
         refine tr hK (fun hHeld => ?_)
         clear hK K)
        refine tc 10 fun K hK => ?_
        (go_simp
         have hY := Blk.new w6 #[.int .i64 0, .int .i64 0] 28
         have hyb : xb < w6.heap.size := hX.lt
         replace hA := hA.al (.cells #[.int .i64 0, .int .i64 0] 28)
         replace hB := hB.al (.cells #[.int .i64 0, .int .i64 0] 28)
         replace hV := hV.al (.cells #[.int .i64 0, .int .i64 0] 28)
         replace hX := hX.al (.cells #[.int .i64 0, .int .i64 0] 28)
         replace hO := hO.al (.cells #[.int .i64 0, .int .i64 0] 28)
         replace hQ := hQ.al (.cells #[.int .i64 0, .int .i64 0] 28)
         replace hW := hW.alloc hW.size (.cells #[.int .i64 0, .int .i64 0] 28)
         replace hS := hS.alloc (.cells #[.int .i64 0, .int .i64 0] 28)
         clear hVc2
         have hVc2 := hV.cell 2 rfl
         generalize (w6.alloc (.cells #[.int .i64 0, .int .i64 0] 28)) = w10 at hS hW hA hB hV hX hO hQ hY hVc2 ⊢
         generalize w6.heap.size = yb at hY hyb ⊢
         refine tr hK (fun hHeld => ?_)
         clear hK K)
        refine tc 11 fun K hK => ?_
        (have yc0 := hY.cell 0 rfl
         have yc1 := hY.cell 1 rfl
         have yf := hY.f
         go_simp
         clear yf yc0 yc1 hVc2
         replace hO := hO.stb (b := yb) (o := 0) (hY.ne hO (show 41 ≠ 28 by decide)) (.int .i64 (U (j * 12 + 4)))
         replace hQ := hQ.stb (b := yb) (o := 0) (hY.ne hQ (show 58 ≠ 28 by decide)) (.int .i64 (U (j * 12 + 4)))
         replace hA := hA.far (b' := yb) (o := 0) (by omega) (.int .i64 (U (j * 12 + 4)))
         replace hB := hB.far (b' := yb) (o := 0) (by omega) (.int .i64 (U (j * 12 + 4)))
         replace hV := hV.far (b' := yb) (o := 0) (by omega) (.int .i64 (U (j * 12 + 4)))
         replace hX := hX.far (b' := yb) (o := 0) (by omega) (.int .i64 (U (j * 12 + 4)))
         replace hY := hY.put 0 (.int .i64 (U (j * 12 + 4)))
         replace hW := hW.setCell (p := ⟨yb, 0, none⟩) (by show w.heap.size ≤ yb; omega) (.int .i64 (U (j * 12 + 4)))
         replace hS := hS.setNew (a := ⟨yb, 0, none⟩) (by show rb < yb; omega) (.int .i64 (U (j * 12 + 4)))
         replace hO := hO.stb (b := yb) (o := 1) (hY.ne hO (show 41 ≠ 28 by decide)) (.int .i64 (U (j * 12 + 5)))
         replace hQ := hQ.stb (b := yb) (o := 1) (hY.ne hQ (show 58 ≠ 28 by decide)) (.int .i64 (U (j * 12 + 5)))
         replace hA := hA.far (b' := yb) (o := 1) (by omega) (.int .i64 (U (j * 12 + 5)))
         replace hB := hB.far (b' := yb) (o := 1) (by omega) (.int .i64 (U (j * 12 + 5)))
         replace hV := hV.far (b' := yb) (o := 1) (by omega) (.int .i64 (U (j * 12 + 5)))
         replace hX := hX.far (b' := yb) (o := 1) (by omega) (.int .i64 (U (j * 12 + 5)))
         replace hY := hY.put 1 (.int .i64 (U (j * 12 + 5)))
         replace hW := hW.setCell (p := ⟨yb, 1, none⟩) (by show w.heap.size ≤ yb; omega) (.int .i64 (U (j * 12 + 5)))
         replace hS := hS.setNew (a := ⟨yb, 1, none⟩) (by show rb < yb; omega) (.int .i64 (U (j * 12 + 5)))
         have hVc2 := hV.cell 2 rfl
         generalize ((w10.setCell ⟨yb, 0, none⟩ (.int .i64 (U (j * 12 + 4)))).setCell ⟨yb, 1, none⟩ (.int .i64 (U (j * 12 + 5)))) = w11 at hS hW hA hB hV hX hY hO hQ hVc2 ⊢
         refine tr hK (fun hHeld => ?_)
         clear hK K)
        refine wpAnyH_done (by kernel_rfl) ?_ _
        go_wp2_with fail
        go_meet
        exact ⟨_, _, _, rfl, hyb, hS.mono (by omega), hW, hA, hB, hV, hX, hY, hO, hQ⟩
      · (go_simp
         have hY := Blk.new w6 #[.int .i64 0, .int .i64 0] 28
         have hyb : xb < w6.heap.size := hX.lt
         replace hA := hA.al (.cells #[.int .i64 0, .int .i64 0] 28)
         replace hB := hB.al (.cells #[.int .i64 0, .int .i64 0] 28)
         replace hV := hV.al (.cells #[.int .i64 0, .int .i64 0] 28)
         replace hX := hX.al (.cells #[.int .i64 0, .int .i64 0] 28)
         replace hO := hO.al (.cells #[.int .i64 0, .int .i64 0] 28)
         replace hQ := hQ.al (.cells #[.int .i64 0, .int .i64 0] 28)
         replace hW := hW.alloc hW.size (.cells #[.int .i64 0, .int .i64 0] 28)
         replace hS := hS.alloc (.cells #[.int .i64 0, .int .i64 0] 28)
         clear hVc2
         have hVc2 := hV.cell 2 rfl
         generalize (w6.alloc (.cells #[.int .i64 0, .int .i64 0] 28)) = w10 at hS hW hA hB hV hX hO hQ hY hVc2 ⊢
         generalize w6.heap.size = yb at hY hyb ⊢
         refine tr hK (fun hHeld => ?_)
         clear hK K)
        refine tc 9 fun K hK => ?_
        (have u4 := hO.cellq (q := j * 12 + 4) (by omega)
         have u5 := hO.cellq (q := j * 12 + 5) (by omega)
         go_simp
         refine tr hK (fun hHeld => ?_)
         clear hK K)
        refine tc 11 fun K hK => ?_
        (have yc0 := hY.cell 0 rfl
         have yc1 := hY.cell 1 rfl
         have yf := hY.f
         go_simp
         clear yf yc0 yc1 hVc2
         replace hO := hO.stb (b := yb) (o := 0) (hY.ne hO (show 41 ≠ 28 by decide)) (.int .i64 (U (j * 12 + 4)))
         replace hQ := hQ.stb (b := yb) (o := 0) (hY.ne hQ (show 58 ≠ 28 by decide)) (.int .i64 (U (j * 12 + 4)))
         replace hA := hA.far (b' := yb) (o := 0) (by omega) (.int .i64 (U (j * 12 + 4)))
         replace hB := hB.far (b' := yb) (o := 0) (by omega) (.int .i64 (U (j * 12 + 4)))
         replace hV := hV.far (b' := yb) (o := 0) (by omega) (.int .i64 (U (j * 12 + 4)))
         replace hX := hX.far (b' := yb) (o := 0) (by omega) (.int .i64 (U (j * 12 + 4)))
         replace hY := hY.put 0 (.int .i64 (U (j * 12 + 4)))
         replace hW := hW.setCell (p := ⟨yb, 0, none⟩) (by show w.heap.size ≤ yb; omega) (.int .i64 (U (j * 12 + 4)))
         replace hS := hS.setNew (a := ⟨yb, 0, none⟩) (by show rb < yb; omega) (.int .i64 (U (j * 12 + 4)))
         replace hO := hO.stb (b := yb) (o := 1) (hY.ne hO (show 41 ≠ 28 by decide)) (.int .i64 (U (j * 12 + 5)))
         replace hQ := hQ.stb (b := yb) (o := 1) (hY.ne hQ (show 58 ≠ 28 by decide)) (.int .i64 (U (j * 12 + 5)))
         replace hA := hA.far (b' := yb) (o := 1) (by omega) (.int .i64 (U (j * 12 + 5)))
         replace hB := hB.far (b' := yb) (o := 1) (by omega) (.int .i64 (U (j * 12 + 5)))
         replace hV := hV.far (b' := yb) (o := 1) (by omega) (.int .i64 (U (j * 12 + 5)))
         replace hX := hX.far (b' := yb) (o := 1) (by omega) (.int .i64 (U (j * 12 + 5)))
         replace hY := hY.put 1 (.int .i64 (U (j * 12 + 5)))
         replace hW := hW.setCell (p := ⟨yb, 1, none⟩) (by show w.heap.size ≤ yb; omega) (.int .i64 (U (j * 12 + 5)))
         replace hS := hS.setNew (a := ⟨yb, 1, none⟩) (by show rb < yb; omega) (.int .i64 (U (j * 12 + 5)))
         have hVc2 := hV.cell 2 rfl
         generalize ((w6.setCell ⟨yb, 0, none⟩ (.int .i64 (U (j * 12 + 4)))).setCell ⟨yb, 1, none⟩ (.int .i64 (U (j * 12 + 5)))) = w11 at hS hW hA hB hV hX hY hO hQ hVc2 ⊢
         refine tr hK (fun hHeld => ?_)
         clear hK K)
        refine wpAnyH_done (by kernel_rfl) ?_ _
        go_wp2_with fail
        go_meet
        exact ⟨_, _, _, rfl, hyb, hS.mono (by omega), hW, hA, hB, hV, hX, hY, hO, hQ⟩
    · (go_simp
       have hY := Blk.new wc #[.int .i64 0, .int .i64 0] 28
       have hyb : xb < wc.heap.size := hX.lt
       replace hA := hA.al (.cells #[.int .i64 0, .int .i64 0] 28)
       replace hB := hB.al (.cells #[.int .i64 0, .int .i64 0] 28)
       replace hV := hV.al (.cells #[.int .i64 0, .int .i64 0] 28)
       replace hX := hX.al (.cells #[.int .i64 0, .int .i64 0] 28)
       replace hO := hO.al (.cells #[.int .i64 0, .int .i64 0] 28)
       replace hQ := hQ.al (.cells #[.int .i64 0, .int .i64 0] 28)
       replace hW := hW.alloc hW.size (.cells #[.int .i64 0, .int .i64 0] 28)
       replace hS := hS.alloc (.cells #[.int .i64 0, .int .i64 0] 28)
       clear hVc2
       replace hA := hA.dr
       replace hB := hB.dr
       replace hV := hV.dr
       replace hX := hX.dr
       replace hO := hO.dr
       replace hQ := hQ.dr
       replace hW := hW.drew
       replace hS := hS.drew
       replace hY := hY.dr
       have hVc2 := hV.cell 2 rfl
       generalize (wc.alloc (.cells #[.int .i64 0, .int .i64 0] 28)).drew = w10 at hS hW hA hB hV hX hO hQ hY hVc2 ⊢
       generalize wc.heap.size = yb at hY hyb ⊢
       refine tr hK (fun hHeld => ?_)
       clear hK K)
      refine tc 6 fun K hK => ?_
      (go_simp
       (go_at_call 19; refine (pick_s rb (73103) _ _ (by exact hS) (by omega) (by omega) (by omega)).mono ?_; rintro e w6 ⟨v6, rfl, va6, vb6, hr6⟩)
       obtain ⟨j, hj⟩ : ∃ j : Nat, v6 = (j : Int) := ⟨v6.toNat, by omega⟩
       subst hj
       have hjn : j < n := (by omega)
       replace hA := hA.but (RB.but hr6) (by omega)
       replace hB := hB.but (RB.but hr6) (by omega)
       replace hV := hV.but (RB.but hr6) (by omega)
       replace hX := hX.but (RB.but hr6) (by omega)
       replace hY := hY.but (RB.but hr6) (by omega)
       replace hO := hO.btb (RB.but hr6) hB0
       replace hQ := hQ.btb (RB.but hr6) hB0
       replace hW := hW.trans (hr6.old (by omega) hW.size)
       replace hS := hr6.rs
       clear hVc2
       have hVc2 := hV.cell 2 rfl
       (try go_wp2_with fail)
       refine tr hK (fun hHeld => ?_)
       clear hK K)
      refine tq 7 hHeld ?_
      refine tq 8 hHeld ?_
      refine tc 9 fun K hK => ?_
      (have u4 := hO.cellq (q := j * 12 + 4) (by omega)
       have u5 := hO.cellq (q := j * 12 + 5) (by omega)
       go_simp
       refine tr hK (fun hHeld => ?_)
       clear hK K)
      refine tc 11 fun K hK => ?_
      (have yc0 := hY.cell 0 rfl
       have yc1 := hY.cell 1 rfl
       have yf := hY.f
       go_simp
       clear yf yc0 yc1 hVc2
       replace hO := hO.stb (b := yb) (o := 0) (hY.ne hO (show 41 ≠ 28 by decide)) (.int .i64 (U (j * 12 + 4)))
       replace hQ := hQ.stb (b := yb) (o := 0) (hY.ne hQ (show 58 ≠ 28 by decide)) (.int .i64 (U (j * 12 + 4)))
       replace hA := hA.far (b' := yb) (o := 0) (by omega) (.int .i64 (U (j * 12 + 4)))
       replace hB := hB.far (b' := yb) (o := 0) (by omega) (.int .i64 (U (j * 12 + 4)))
       replace hV := hV.far (b' := yb) (o := 0) (by omega) (.int .i64 (U (j * 12 + 4)))
       replace hX := hX.far (b' := yb) (o := 0) (by omega) (.int .i64 (U (j * 12 + 4)))
       replace hY := hY.put 0 (.int .i64 (U (j * 12 + 4)))
       replace hW := hW.setCell (p := ⟨yb, 0, none⟩) (by show w.heap.size ≤ yb; omega) (.int .i64 (U (j * 12 + 4)))
       replace hS := hS.setNew (a := ⟨yb, 0, none⟩) (by show rb < yb; omega) (.int .i64 (U (j * 12 + 4)))
       replace hO := hO.stb (b := yb) (o := 1) (hY.ne hO (show 41 ≠ 28 by decide)) (.int .i64 (U (j * 12 + 5)))
       replace hQ := hQ.stb (b := yb) (o := 1) (hY.ne hQ (show 58 ≠ 28 by decide)) (.int .i64 (U (j * 12 + 5)))
       replace hA := hA.far (b' := yb) (o := 1) (by omega) (.int .i64 (U (j * 12 + 5)))
       replace hB := hB.far (b' := yb) (o := 1) (by omega) (.int .i64 (U (j * 12 + 5)))
       replace hV := hV.far (b' := yb) (o := 1) (by omega) (.int .i64 (U (j * 12 + 5)))
       replace hX := hX.far (b' := yb) (o := 1) (by omega) (.int .i64 (U (j * 12 + 5)))
       replace hY := hY.put 1 (.int .i64 (U (j * 12 + 5)))
       replace hW := hW.setCell (p := ⟨yb, 1, none⟩) (by show w.heap.size ≤ yb; omega) (.int .i64 (U (j * 12 + 5)))
       replace hS := hS.setNew (a := ⟨yb, 1, none⟩) (by show rb < yb; omega) (.int .i64 (U (j * 12 + 5)))
       have hVc2 := hV.cell 2 rfl
       generalize ((w6.setCell ⟨yb, 0, none⟩ (.int .i64 (U (j * 12 + 4)))).setCell ⟨yb, 1, none⟩ (.int .i64 (U (j * 12 + 5)))) = w11 at hS hW hA hB hV hX hY hO hQ hVc2 ⊢
       refine tr hK (fun hHeld => ?_)
       clear hK K)
      refine wpAnyH_done (by kernel_rfl) ?_ _
      go_wp2_with fail
      go_meet
      exact ⟨_, _, _, rfl, hyb, hS.mono (by omega), hW, hA, hB, hV, hX, hY, hO, hQ⟩
   case rest =>
   clear hS hW hA hB hV hX hO hQ hVc2
   obtain ⟨yb, y0, y1, rfl, hyb, hS, hW, hA, hB, hV, hX, hY, hO, hQ⟩ := hcut
   have hXc0 := hX.cell 0 rfl
   have hXc1 := hX.cell 1 rfl
   have hXc2 := hX.cell 2 rfl
   have hXc3 := hX.cell 3 rfl
   have hYc0 := hY.cell 0 rfl
   have hYc1 := hY.cell 1 rfl
   have hXf := hX.f
   obtain ⟨t0, ht0⟩ : ∃ z, wrap64 (wrap64 (y0 - V 0) * 2) = z := ⟨_, rfl⟩
   obtain ⟨t1, ht1⟩ : ∃ z, wrap64 (wrap64 (y1 - V 1) * 2) = z := ⟨_, rfl⟩
   go_wp2_with fail
   clear hXc0 hXc1 hXc2 hXc3 hYc0 hYc1 hXf
   replace hO := hO.stb (b := xb) (o := 2) (hX.ne hO (show 41 ≠ 30 by decide)) (.int .i64 t0)
   replace hQ := hQ.stb (b := xb) (o := 2) (hX.ne hQ (show 58 ≠ 30 by decide)) (.int .i64 t0)
   replace hA := hA.far (b' := xb) (o := 2) (by omega) (.int .i64 t0)
   replace hB := hB.far (b' := xb) (o := 2) (by omega) (.int .i64 t0)
   replace hV := hV.far (b' := xb) (o := 2) (by omega) (.int .i64 t0)
   replace hY := hY.far (b' := xb) (o := 2) (by omega) (.int .i64 t0)
   replace hX := hX.put 2 (.int .i64 t0)
   replace hW := hW.setCell (p := ⟨xb, 2, none⟩) (by show w.heap.size ≤ xb; omega) (.int .i64 t0)
   replace hS := hS.setNew (a := ⟨xb, 2, none⟩) (by show rb < xb; omega) (.int .i64 t0)
   replace hO := hO.stb (b := xb) (o := 3) (hX.ne hO (show 41 ≠ 30 by decide)) (.int .i64 t1)
   replace hQ := hQ.stb (b := xb) (o := 3) (hX.ne hQ (show 58 ≠ 30 by decide)) (.int .i64 t1)
   replace hA := hA.far (b' := xb) (o := 3) (by omega) (.int .i64 t1)
   replace hB := hB.far (b' := xb) (o := 3) (by omega) (.int .i64 t1)
   replace hV := hV.far (b' := xb) (o := 3) (by omega) (.int .i64 t1)
   replace hY := hY.far (b' := xb) (o := 3) (by omega) (.int .i64 t1)
   replace hX := hX.put 3 (.int .i64 t1)
   replace hW := hW.setCell (p := ⟨xb, 3, none⟩) (by show w.heap.size ≤ xb; omega) (.int .i64 t1)
   replace hS := hS.setNew (a := ⟨xb, 3, none⟩) (by show rb < xb; omega) (.int .i64 t1)
   go_meet
   exact ⟨(fun j => [V 0, V 1, t0, t1].getD j 0), hS.mono (by omega), hW, hA, hB, hV, hX, hO, hQ⟩
 case rest =>
 clear hS hW hA hB hV hX hO hQ
 obtain ⟨V, hS, hW, hA, hB, hV, hX, hO, hQ⟩ := hcut
 refine hK8 _ _ ?_
 have hVc0 := hV.cell 0 rfl
 have hVc1 := hV.cell 1 rfl
 have hVc2 := hV.cell 2 rfl
 have hVc3 := hV.cell 3 rfl
 have hXc0 := hX.cell 0 rfl
 have hXc1 := hX.cell 1 rfl
 have hXc2 := hX.cell 2 rfl
 have hXc3 := hX.cell 3 rfl
 go_upto_region 7 with fail
 refine wp_region_held_drew (S := fun w' => w'.cell? ⟨vb, 0, none⟩ = some (.int .i64 T) ∧ w'.cell? ⟨vb, 1, none⟩ = some (.int .i64 P) ∧ w'.cell? ⟨vb, 2, none⟩ = some (.slice a n c) ∧ w'.cell? ⟨vb, 3, none⟩ = some (.slice a' m c') ∧ w'.cell? ⟨xb, 0, none⟩ = some (.int .i64 (V 0)) ∧ w'.cell? ⟨xb, 1, none⟩ = some (.int .i64 (V 1)) ∧ w'.cell? ⟨xb, 2, none⟩ = some (.int .i64 (V 2)) ∧ w'.cell? ⟨xb, 3, none⟩ = some (.int .i64 (V 3))) (by kernel_rfl) ?_ (fun hHeld => ?_)
 · (try dsimp only)
   (first | (go_simp; done) | (go_keep; done))
 refine tq 0 hHeld ?_
 refine tq 1 hHeld ?_
 refine tc 2 fun K hK => ?_
 (have bc0 := hA.cell 0 rfl
  have bc1 := hA.cell 1 rfl
  have bc2 := hA.cell 2 rfl
  have bc3 := hA.cell 3 rfl
  have bf := hA.f
  go_simp
  clear bf bc0 bc1 bc2 bc3 hVc0 hVc1 hVc2 hVc3 hXc0 hXc1 hXc2 hXc3
  clear hS
  replace hO := hO.stb (b := w.heap.size) (o := 0) (hA.ne hO (show 41 ≠ 26 by decide)) (.int .i64 T)
  replace hQ := hQ.stb (b := w.heap.size) (o := 0) (hA.ne hQ (show 58 ≠ 26 by decide)) (.int .i64 T)
  replace hB := hB.far (b' := w.heap.size) (o := 0) (by omega) (.int .i64 T)
  replace hV := hV.far (b' := w.heap.size) (o := 0) (by omega) (.int .i64 T)
  replace hX := hX.far (b' := w.heap.size) (o := 0) (by omega) (.int .i64 T)
  replace hA := hA.put 0 (.int .i64 T)
  replace hW := hW.setCell (p := ⟨w.heap.size, 0, none⟩) (by show w.heap.size ≤ w.heap.size; omega) (.int .i64 T)
  replace hO := hO.stb (b := w.heap.size) (o := 1) (hA.ne hO (show 41 ≠ 26 by decide)) (.int .i64 P)
  replace hQ := hQ.stb (b := w.heap.size) (o := 1) (hA.ne hQ (show 58 ≠ 26 by decide)) (.int .i64 P)
  replace hB := hB.far (b' := w.heap.size) (o := 1) (by omega) (.int .i64 P)
  replace hV := hV.far (b' := w.heap.size) (o := 1) (by omega) (.int .i64 P)
  replace hX := hX.far (b' := w.heap.size) (o := 1) (by omega) (.int .i64 P)
  replace hA := hA.put 1 (.int .i64 P)
  replace hW := hW.setCell (p := ⟨w.heap.size, 1, none⟩) (by show w.heap.size ≤ w.heap.size; omega) (.int .i64 P)
  replace hO := hO.stb (b := w.heap.size) (o := 2) (hA.ne hO (show 41 ≠ 26 by decide)) (.slice a n c)
  replace hQ := hQ.stb (b := w.heap.size) (o := 2) (hA.ne hQ (show 58 ≠ 26 by decide)) (.slice a n c)
  replace hB := hB.far (b' := w.heap.size) (o := 2) (by omega) (.slice a n c)
  replace hV := hV.far (b' := w.heap.size) (o := 2) (by omega) (.slice a n c)
  replace hX := hX.far (b' := w.heap.size) (o := 2) (by omega) (.slice a n c)
  replace hA := hA.put 2 (.slice a n c)
  replace hW := hW.setCell (p := ⟨w.heap.size, 2, none⟩) (by show w.heap.size ≤ w.heap.size; omega) (.slice a n c)
  replace hO := hO.stb (b := w.heap.size) (o := 3) (hA.ne hO (show 41 ≠ 26 by decide)) (.slice a' m c')
  replace hQ := hQ.stb (b := w.heap.size) (o := 3) (hA.ne hQ (show 58 ≠ 26 by decide)) (.slice a' m c')
  replace hB := hB.far (b' := w.heap.size) (o := 3) (by omega) (.slice a' m c')
  replace hV := hV.far (b' := w.heap.size) (o := 3) (by omega) (.slice a' m c')
  replace hX := hX.far (b' := w.heap.size) (o := 3) (by omega) (.slice a' m c')
  replace hA := hA.put 3 (.slice a' m c')
  replace hW := hW.setCell (p := ⟨w.heap.size, 3, none⟩) (by show w.heap.size ≤ w.heap.size; omega) (.slice a' m c')
  replace hA := hA.dr
  replace hB := hB.dr
  replace hV := hV.dr
  replace hX := hX.dr
  replace hO := hO.dr
  replace hQ := hQ.dr
  replace hW := hW.drew
  have hVc0 := hV.cell 0 rfl
  have hVc1 := hV.cell 1 rfl
  have hVc2 := hV.cell 2 rfl
  have hVc3 := hV.cell 3 rfl
  have hXc0 := hX.cell 0 rfl
  have hXc1 := hX.cell 1 rfl
  have hXc2 := hX.cell 2 rfl
  have hXc3 := hX.cell 3 rfl
  generalize ((((wc.setCell ⟨w.heap.size, 0, none⟩ (.int .i64 T)).setCell ⟨w.heap.size, 1, none⟩ (.int .i64 P)).setCell ⟨w.heap.size, 2, none⟩ (.slice a n c)).setCell ⟨w.heap.size, 3, none⟩ (.slice a' m c')).drew = w20 at hW hA hB hV hX hO hQ hVc0 hVc1 hVc2 hVc3 hXc0 hXc1 hXc2 hXc3 ⊢
  refine tr hK (fun hHeld => ?_)
  clear hK K)
 refine tc 3 fun K hK => ?_
 (have bc0 := hB.cell 0 rfl
  have bc1 := hB.cell 1 rfl
  have bc2 := hB.cell 2 rfl
  have bc3 := hB.cell 3 rfl
  have bf := hB.f
  go_simp
  clear bf bc0 bc1 bc2 bc3 hVc0 hVc1 hVc2 hVc3 hXc0 hXc1 hXc2 hXc3
  replace hO := hO.stb (b := w.heap.size + 1) (o := 0) (hB.ne hO (show 41 ≠ 30 by decide)) (.int .i64 (V 0))
  replace hQ := hQ.stb (b := w.heap.size + 1) (o := 0) (hB.ne hQ (show 58 ≠ 30 by decide)) (.int .i64 (V 0))
  replace hA := hA.far (b' := w.heap.size + 1) (o := 0) (by omega) (.int .i64 (V 0))
  replace hV := hV.far (b' := w.heap.size + 1) (o := 0) (by omega) (.int .i64 (V 0))
  replace hX := hX.far (b' := w.heap.size + 1) (o := 0) (by omega) (.int .i64 (V 0))
  replace hB := hB.put 0 (.int .i64 (V 0))
  replace hW := hW.setCell (p := ⟨w.heap.size + 1, 0, none⟩) (by show w.heap.size ≤ w.heap.size + 1; omega) (.int .i64 (V 0))
  replace hO := hO.stb (b := w.heap.size + 1) (o := 1) (hB.ne hO (show 41 ≠ 30 by decide)) (.int .i64 (V 1))
  replace hQ := hQ.stb (b := w.heap.size + 1) (o := 1) (hB.ne hQ (show 58 ≠ 30 by decide)) (.int .i64 (V 1))
  replace hA := hA.far (b' := w.heap.size + 1) (o := 1) (by omega) (.int .i64 (V 1))
  replace hV := hV.far (b' := w.heap.size + 1) (o := 1) (by omega) (.int .i64 (V 1))
  replace hX := hX.far (b' := w.heap.size + 1) (o := 1) (by omega) (.int .i64 (V 1))
  replace hB := hB.put 1 (.int .i64 (V 1))
  replace hW := hW.setCell (p := ⟨w.heap.size + 1, 1, none⟩) (by show w.heap.size ≤ w.heap.size + 1; omega) (.int .i64 (V 1))
  replace hO := hO.stb (b := w.heap.size + 1) (o := 2) (hB.ne hO (show 41 ≠ 30 by decide)) (.int .i64 (V 2))
  replace hQ := hQ.stb (b := w.heap.size + 1) (o := 2) (hB.ne hQ (show 58 ≠ 30 by decide)) (.int .i64 (V 2))
  replace hA := hA.far (b' := w.heap.size + 1) (o := 2) (by omega) (.int .i64 (V 2))
  replace hV := hV.far (b' := w.heap.size + 1) (o := 2) (by omega) (.int .i64 (V 2))
  replace hX := hX.far (b' := w.heap.size + 1) (o := 2) (by omega) (.int .i64 (V 2))
  replace hB := hB.put 2 (.int .i64 (V 2))
  replace hW := hW.setCell (p := ⟨w.heap.size + 1, 2, none⟩) (by show w.heap.size ≤ w.heap.size + 1; omega) (.int .i64 (V 2))
  replace hO := hO.stb (b := w.heap.size + 1) (o := 3) (hB.ne hO (show 41 ≠ 30 by decide)) (.int .i64 (V 3))
  replace hQ := hQ.stb (b := w.heap.size + 1) (o := 3) (hB.ne hQ (show 58 ≠ 30 by decide)) (.int .i64 (V 3))
  replace hA := hA.far (b' := w.heap.size + 1) (o := 3) (by omega) (.int .i64 (V 3))
  replace hV := hV.far (b' := w.heap.size + 1) (o := 3) (by omega) (.int .i64 (V 3))
  replace hX := hX.far (b' := w.heap.size + 1) (o := 3) (by omega) (.int .i64 (V 3))
  replace hB := hB.put 3 (.int .i64 (V 3))
  replace hW := hW.setCell (p := ⟨w.heap.size + 1, 3, none⟩) (by show w.heap.size ≤ w.heap.size + 1; omega) (.int .i64 (V 3))
  have hVc0 := hV.cell 0 rfl
  have hVc1 := hV.cell 1 rfl
  have hVc2 := hV.cell 2 rfl
  have hVc3 := hV.cell 3 rfl
  have hXc0 := hX.cell 0 rfl
  have hXc1 := hX.cell 1 rfl
  have hXc2 := hX.cell 2 rfl
  have hXc3 := hX.cell 3 rfl
  generalize ((((w20.setCell ⟨w.heap.size + 1, 0, none⟩ (.int .i64 (V 0))).setCell ⟨w.heap.size + 1, 1, none⟩ (.int .i64 (V 1))).setCell ⟨w.heap.size + 1, 2, none⟩ (.int .i64 (V 2))).setCell ⟨w.heap.size + 1, 3, none⟩ (.int .i64 (V 3))) = w21 at hW hA hB hV hX hO hQ hVc0 hVc1 hVc2 hVc3 hXc0 hXc1 hXc2 hXc3 ⊢
  refine tr hK (fun hHeld => ?_)
  clear hK K)
 refine wpAnyH_done (by kernel_rfl) ?_ _
 go_wp2_with fail
 clear hVc0 hVc1 hVc2 hVc3 hXc0 hXc1 hXc2 hXc3
 have y0 := hA.cell 0 rfl
 have y1 := hA.cell 1 rfl
 have y2 := hA.cell 2 rfl
 have y3 := hA.cell 3 rfl
 have z0 := hB.cell 0 rfl
 have z1 := hB.cell 1 rfl
 have z2 := hB.cell 2 rfl
 have z3 := hB.cell 3 rfl
 exact bodyPost_ret (v := .tuple #[worldW T P a n c a' m c', b4 (V 0) (V 1) (V 2) (V 3)]) (by simp [results, Tryz.results5, go_sem, y0, y1, y2, y3, z0, z1, z2, z3]) rfl (by unfold DrR; exact ⟨T, P, a, n, c, U, a', m, c', Q, V 0, V 1, V 2, V 3, rfl, hnm.1, hnm.2, hW, hO.base (by omega), hQ.base (by omega)⟩)
end Go.Proofs.YthijeiehcdoidaaGreat
