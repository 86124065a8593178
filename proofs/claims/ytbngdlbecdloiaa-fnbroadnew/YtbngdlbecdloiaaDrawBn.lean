/- The draw of boxes ahead and now. -/
import Derived.Test.YtbngdlbecdloiaaDrawBe
import Derived.Deep.RegionHeld3
import Derived.Deep.DeepCutAuto
set_option maxHeartbeats 16000000
set_option maxRecDepth 20000
namespace Go.Proofs.Ytbngdlbecdloiaa
open Go.RowKit
set_option linter.unusedVariables false
set_option linter.unusedSimpArgs false
theorem putIs_t24 {n k N : Nat} {U X R : Nat → Int} {B : Bool} (h : PutIs n U X k N R B) : B = true → N ≤ 24 := by
  rintro rfl
  rcases h with ⟨_, _, h1⟩ | ⟨_, _, _, h1, _⟩ | ⟨hb, _, _, h1, _, _⟩ | ⟨_, _, _, _, _, h1, _⟩ | ⟨_, _, _, h24, h1, _, _⟩
  · cases h1
  · cases h1
  · have := broad_le hb; omega
  · cases h1
  · omega
def DrN (w : World) (e : Ending) (w' : World) : Prop := ∃ (a : Option Addr) (n c : Nat) (U : Nat → Int) (a1 : Option Addr) (m c1 : Nat) (V : Nat → Int), e = .returned (.tuple #[.agg #[.slice a n c], .agg #[.slice a1 m c1]]) ∧ n ≤ 25 ∧ m ≤ 25 ∧ Below w.heap.size w w' ∧ OwnL w' w.heap.size 31 5 (.slice a n c) n U ∧ OwnL w' w.heap.size 31 5 (.slice a1 m c1) m V
set_option maxRecDepth 20000 in
set_option maxHeartbeats 8000000 in
theorem drawBroadNew_k (ac : Option Addr) (len cap : Nat) (w : World) (hb : Bytes w ac len cap) :
    Calls Try.prog 30 #[.slice ac len cap] w fun e w' => DrN w e w' := by
  have hset := cset_map
  have hE : Below w.heap.size w ((w.alloc (.cells #[.slice none 0 0] 25)).alloc (.cells #[.slice none 0 0] 25)) := ((Below.refl _ _).alloc (Nat.le_refl _) _).alloc (by simp) _
  have hb0 := hb.below (((Below.refl _ _).alloc (Nat.le_refl _) _).alloc (by simp) _ : Below w.heap.size w ((w.alloc (.cells #[.slice none 0 0] 25)).alloc (.cells #[.slice none 0 0] 25)))
  have hz : ((w.alloc (.cells #[.slice none 0 0] 25)).alloc (.cells #[.slice none 0 0] 25)).heap.size = w.heap.size + 2 := by simp
  have hA : Blk ((w.alloc (.cells #[.slice none 0 0] 25)).alloc (.cells #[.slice none 0 0] 25)) w.heap.size #[.slice none 0 0] 25 := (Blk.new w _ _).al _
  have hB : Blk ((w.alloc (.cells #[.slice none 0 0] 25)).alloc (.cells #[.slice none 0 0] 25)) (w.heap.size + 1) #[.slice none 0 0] 25 := by have q := Blk.new (w.alloc (.cells #[.slice none 0 0] 25)) #[.slice none 0 0] 25; rw [World.size_alloc] at q; exact q
  go_enter Try.func30, Try.ntmps30
  go_upto_region 1 with fail
  generalize ((w.alloc (.cells #[.slice none 0 0] 25)).alloc (.cells #[.slice none 0 0] 25)) = w0 at hE hb0 hz hA hB ⊢
  go_cut [4] (fun s wc => ∃ rb : Nat, s = .pointer (some ⟨rb, 0, none⟩) ∧ w.heap.size + 2 ≤ rb ∧ RS wc rb (0) ∧ Below w.heap.size w wc ∧ Blk wc (w.heap.size) #[.slice none 0 0] 25 ∧ Blk wc (w.heap.size + 1) #[.slice none 0 0] 25)
  case first =>
    go_wp2_with (go_at_call 33; refine (l1Open_rb _ _ _ _ hb0).mono ?_; rintro e w1 ⟨rfl, hr1, hbel⟩)
    go_meet
    rw [hz] at hr1
    exact ⟨_, rfl, by omega, hr1.rs, hE.trans (hbel.mono hE.size), hA.on hbel, hB.on hbel⟩
  case rest =>
  clear hE hb0 hz hA hB
  obtain ⟨rb, rfl, hlo, hS, hW, hA, hB⟩ := hcut
  have hlt := hS.lt
  go_upto_region 2 with fail
  go_cut [5] (fun s wc => ∃ (va B0 : Nat) (a : Option Addr) (n c : Nat) (U : Nat → Int), s = .pointer (some ⟨va, 0, none⟩) ∧ n ≤ 25 ∧ rb < B0 ∧ B0 ≤ va ∧ RS wc rb (50000) ∧ Below w.heap.size w wc ∧ Blk wc (w.heap.size) #[.slice none 0 0] 25 ∧ Blk wc (w.heap.size + 1) #[.slice none 0 0] 25 ∧ Blk wc (va) #[.slice a n c] 25 ∧ OwnL wc B0 31 5 (.slice a n c) n U)
  case first =>
    go_wp2_with (go_at_call 34; refine (l11AnyBroad_k rb 0 _ (by exact hS) (by omega)).mono ?_; rintro e w1 ⟨a, n, c, U, rfl, hn, hr1, hO⟩)
    go_meet
    replace hA := hA.but (RB.but hr1) (by omega)
    replace hB := hB.but (RB.but hr1) (by omega)
    replace hW := hW.trans (hr1.old (by omega) hW.size)
    replace hS := hr1.rs
    replace hA := hA.al (.cells #[.slice a n c] 25)
    replace hB := hB.al (.cells #[.slice a n c] 25)
    replace hW := hW.alloc hW.size (.cells #[.slice a n c] 25)
    replace hS := hS.alloc (.cells #[.slice a n c] 25)
    exact ⟨_, _, a, n, c, U, rfl, hn, hlt, hr1.size, hS.mono (by omega), hW, hA, hB, Blk.new _ _ _, hO.al _⟩
  case rest =>
  clear hS hW hA hB hlt
  obtain ⟨va, B0, a, n, c, U, rfl, hn, hB0, hva, hS, hW, hA, hB, hV, hO⟩ := hcut
  have hVc0 := hV.cell 0 rfl
  go_upto_region 3 with fail
  go_cut [6] (fun s wc => ∃ (vb : Nat) (a1 : Option Addr) (c1 : Nat), s = .pointer (some ⟨vb, 0, none⟩) ∧ va < vb ∧ RS wc rb (50000) ∧ Below w.heap.size w wc ∧ Blk wc (w.heap.size) #[.slice none 0 0] 25 ∧ Blk wc (w.heap.size + 1) #[.slice none 0 0] 25 ∧ Blk wc (va) #[.slice a n c] 25 ∧ Blk wc (vb) #[.slice a1 n c1] 25 ∧ OwnL wc B0 31 5 (.slice a n c) n U ∧ OwnL wc B0 31 5 (.slice a1 n c1) n U)
  case first =>
    go_wp2_with (go_at_call 43; refine (l4Copy_any a n c U _ hO.flat (by omega)).mono ?_; rintro e w1 ⟨a1, c1, rfl, hOu⟩)
    go_meet
    have hbu := hOu.bel
    have hP := hOu.own.base (B := B0) (by have := hV.lt; omega)
    have hvb : va < w1.heap.size := by have := hV.lt; have := hbu.size; omega
    replace hA := hA.on hbu
    replace hB := hB.on hbu
    replace hV := hV.on hbu
    replace hO := hO.below hbu
    replace hW := hW.trans (hbu.mono hW.size)
    replace hS := (hS.rb.upq hbu hS.lt).rs
    replace hA := hA.al (.cells #[.slice a1 n c1] 25)
    replace hB := hB.al (.cells #[.slice a1 n c1] 25)
    replace hV := hV.al (.cells #[.slice a1 n c1] 25)
    replace hO := hO.al (.cells #[.slice a1 n c1] 25)
    replace hW := hW.alloc hW.size (.cells #[.slice a1 n c1] 25)
    replace hS := hS.alloc (.cells #[.slice a1 n c1] 25)
    exact ⟨_, a1, c1, rfl, hvb, hS, hW, hA, hB, hV, Blk.new _ _ _, hO, hP.al _⟩
  case rest =>
  clear hS hW hA hB hV hO hVc0
  obtain ⟨vb, a1, c1, rfl, hvb, hS, hW, hA, hB, hV, hZ, hO, hP⟩ := hcut
  go_upto_region 4 with fail
  go_cut [7] (fun s wc => ∃ r : Nat, s = .int .i64 (r : Int) ∧ r ≤ 4 ∧ RS wc rb (50001) ∧ Below w.heap.size w wc ∧ Blk wc (w.heap.size) #[.slice none 0 0] 25 ∧ Blk wc (w.heap.size + 1) #[.slice none 0 0] 25 ∧ Blk wc (va) #[.slice a n c] 25 ∧ Blk wc (vb) #[.slice a1 n c1] 25 ∧ OwnL wc B0 31 5 (.slice a n c) n U ∧ OwnL wc B0 31 5 (.slice a1 n c1) n U)
  case first =>
    go_wp2_with (go_at_call 36; refine (pick_s rb (50000) _ _ (by exact hS) (by omega) (by omega) (by omega)).mono ?_; rintro e w2 ⟨v2, rfl, va2, vb2, hr2⟩; have hwr : IntKind.i64.wrap (1 + v2) = 1 + v2 := i64w (by omega))
    go_meet
    replace hA := hA.but (RB.but hr2) (by omega)
    replace hB := hB.but (RB.but hr2) (by omega)
    replace hV := hV.but (RB.but hr2) (by omega)
    replace hZ := hZ.but (RB.but hr2) (by omega)
    replace hO := hO.btb (RB.but hr2) hB0
    replace hP := hP.btb (RB.but hr2) hB0
    replace hW := hW.trans (hr2.old (by omega) hW.size)
    replace hS := hr2.rs
    exact ⟨(1 + v2).toNat, by rw [Int.toNat_of_nonneg (by omega)], by omega, hS, hW, hA, hB, hV, hZ, hO, hP⟩
  case rest =>
  clear hS hW hA hB hV hZ hO hP
  obtain ⟨r0, rfl, hr0, hS, hW, hA, hB, hV, hZ, hO, hP⟩ := hcut
  go_upto_region 5 with fail
  go_loopw [7, 8, 9, 10] (fun s7 _ _ _ wr => ∃ (r : Nat) (a1 : Option Addr) (m c1 : Nat) (V : Nat → Int), s7 = .int .i64 (r : Int) ∧ r ≤ 4 ∧ m ≤ 25 ∧ RS wr rb (50001 + 1000 * (4 - r)) ∧ Below w.heap.size w wr ∧ Blk wr (w.heap.size) #[.slice none 0 0] 25 ∧ Blk wr (w.heap.size + 1) #[.slice none 0 0] 25 ∧ Blk wr (va) #[.slice a n c] 25 ∧ Blk wr (vb) #[.slice a1 m c1] 25 ∧ OwnL wr B0 31 5 (.slice a n c) n U ∧ OwnL wr B0 31 5 (.slice a1 m c1) m V) (fun s7 _ _ _ _ => (intOf s7).toNat)
  case atStart => exact ⟨r0, a1, n, c1, U, rfl, hr0, hn, hS.mono (by omega), hW, hA, hB, hV, hZ, hO, hP⟩
  case round =>
    clear hS hW hA hB hV hZ hO hP hr0
    obtain ⟨r, a1, m, c1, V, rfl, hr4, hm, hS, hW, hA, hB, hV, hZ, hO, hP⟩ := hrel
    by_cases hlr : 0 < r
    · have hri : (0 : Int) < (r : Int) := by omega
      obtain ⟨p1, hp1⟩ : ∃ p1, 50001 + 1000 * (4 - r) = p1 := ⟨_, rfl⟩
      have hp1b : p1 ≤ 60000 := by omega
      have hp1c : p1 + 1000 ≤ 50001 + 1000 * (4 - (r - 1)) := by omega
      rw [hp1] at hS
      clear hp1
      go_upto_region 7 with fail
      go_cut [8] (fun s wc => ∃ (yb : Nat) (x y u v : Int), s = .pointer (some ⟨yb, 0, none⟩) ∧ vb < yb ∧ RS wc rb (p1 + 600) ∧ Below w.heap.size w wc ∧ Blk wc (w.heap.size) #[.slice none 0 0] 25 ∧ Blk wc (w.heap.size + 1) #[.slice none 0 0] 25 ∧ Blk wc (va) #[.slice a n c] 25 ∧ Blk wc (vb) #[.slice a1 m c1] 25 ∧ Blk wc (yb) #[.int .i64 x, .int .i64 y, .int .i64 u, .int .i64 v] 29 ∧ OwnL wc B0 31 5 (.slice a n c) n U ∧ OwnL wc B0 31 5 (.slice a1 m c1) m V)
      case first =>
        go_wp2_with (go_at_call 56; refine (l11Box_k rb p1 _ (by exact hS) (by omega)).mono ?_; rintro e w1 ⟨x, y, u, v, rfl, hbp, hord, hr1⟩)
        go_meet
        replace hA := hA.but (RB.but hr1) (by omega)
        replace hB := hB.but (RB.but hr1) (by omega)
        replace hV := hV.but (RB.but hr1) (by omega)
        replace hZ := hZ.but (RB.but hr1) (by omega)
        replace hO := hO.btb (RB.but hr1) hB0
        replace hP := hP.btb (RB.but hr1) hB0
        replace hW := hW.trans (hr1.old (by omega) hW.size)
        replace hS := hr1.rs
        have hyb : vb < w1.heap.size := hZ.lt
        replace hA := hA.al (.cells #[.int .i64 x, .int .i64 y, .int .i64 u, .int .i64 v] 29)
        replace hB := hB.al (.cells #[.int .i64 x, .int .i64 y, .int .i64 u, .int .i64 v] 29)
        replace hV := hV.al (.cells #[.int .i64 x, .int .i64 y, .int .i64 u, .int .i64 v] 29)
        replace hZ := hZ.al (.cells #[.int .i64 x, .int .i64 y, .int .i64 u, .int .i64 v] 29)
        replace hO := hO.al (.cells #[.int .i64 x, .int .i64 y, .int .i64 u, .int .i64 v] 29)
        replace hP := hP.al (.cells #[.int .i64 x, .int .i64 y, .int .i64 u, .int .i64 v] 29)
        replace hW := hW.alloc hW.size (.cells #[.int .i64 x, .int .i64 y, .int .i64 u, .int .i64 v] 29)
        replace hS := hS.alloc (.cells #[.int .i64 x, .int .i64 y, .int .i64 u, .int .i64 v] 29)
        exact ⟨_, x, y, u, v, rfl, hyb, hS, hW, hA, hB, hV, hZ, Blk.new _ _ _, hO, hP⟩
      case rest =>
      clear hS hW hA hB hV hZ hO hP
      obtain ⟨yb, x, y, u, v, rfl, hyb, hS, hW, hA, hB, hV, hZ, hY, hO, hP⟩ := hcut
      rename_i hKK
      refine hKK _ _ ?_
      refine wp_seq_k (fun K8 hK8 => ?_)
      go_cut [] (fun wc => ∃ x y u v : Int, RS wc rb (p1 + 602) ∧ Below w.heap.size w wc ∧ Blk wc (w.heap.size) #[.slice none 0 0] 25 ∧ Blk wc (w.heap.size + 1) #[.slice none 0 0] 25 ∧ Blk wc (va) #[.slice a n c] 25 ∧ Blk wc (vb) #[.slice a1 m c1] 25 ∧ Blk wc (yb) #[.int .i64 x, .int .i64 y, .int .i64 u, .int .i64 v] 29 ∧ OwnL wc B0 31 5 (.slice a n c) n U ∧ OwnL wc B0 31 5 (.slice a1 m c1) m V)
      case first =>
        have hZc0 := hZ.cell 0 rfl
        go_upto_region 8 with fail
        go_cut [34] (fun s wc => ∃ z : Bool, s = .bool z ∧ (z = true → 0 < m) ∧ RS wc rb (p1 + 601) ∧ Below w.heap.size w wc ∧ Blk wc (w.heap.size) #[.slice none 0 0] 25 ∧ Blk wc (w.heap.size + 1) #[.slice none 0 0] 25 ∧ Blk wc (va) #[.slice a n c] 25 ∧ Blk wc (vb) #[.slice a1 m c1] 25 ∧ Blk wc (yb) #[.int .i64 x, .int .i64 y, .int .i64 u, .int .i64 v] 29 ∧ OwnL wc B0 31 5 (.slice a n c) n U ∧ OwnL wc B0 31 5 (.slice a1 m c1) m V)
        case first =>
          by_cases hn0 : 0 < m
          · have e1 : (0 : Int) < (m : Int) := by omega
            go_wp2_with (go_at_call 36; refine (pick_s rb (p1 + 600) _ _ (by exact hS) (by omega) (by omega) (by omega)).mono ?_; rintro e w2 ⟨v2, rfl, va2, vb2, hr2⟩)
            go_meet
            replace hA := hA.but (RB.but hr2) (by omega)
            replace hB := hB.but (RB.but hr2) (by omega)
            replace hV := hV.but (RB.but hr2) (by omega)
            replace hZ := hZ.but (RB.but hr2) (by omega)
            replace hY := hY.but (RB.but hr2) (by omega)
            replace hO := hO.btb (RB.but hr2) hB0
            replace hP := hP.btb (RB.but hr2) hB0
            replace hW := hW.trans (hr2.old (by omega) hW.size)
            replace hS := hr2.rs
            exact ⟨_, rfl, fun _ => hn0, hS, hW, hA, hB, hV, hZ, hY, hO, hP⟩
          · have e1 : ¬ (0 : Int) < (m : Int) := by omega
            go_wp2_with fail
            go_meet
            exact ⟨false, rfl, (fun e => by cases e), hS.mono (by omega), hW, hA, hB, hV, hZ, hY, hO, hP⟩
        case rest =>
        clear hS hW hA hB hV hZ hY hO hP hZc0
        obtain ⟨z, rfl, hz, hS, hW, hA, hB, hV, hZ, hY, hO, hP⟩ := hcut
        cases z with
        | false =>
          go_wp2_with fail
          go_meet
          exact ⟨x, y, u, v, hS.mono (by omega), hW, hA, hB, hV, hZ, hY, hO, hP⟩
        | true =>
          have hn0 := hz rfl
          have hn1 : (1 : Int) ≤ (m : Int) := by omega
          obtain ⟨g, rfl, hg1, hg2⟩ := hP.loc hn0
          clear hg2
          have hZc0 := hZ.cell 0 rfl
          go_upto_region 9 with fail
          refine wp_region_held_drew (S := fun w' => w'.cell? ⟨vb, 0, none⟩ = some (.slice (some ⟨g, 0, none⟩) m c1)) (by kernel_rfl) ?_ (fun hHeld => ?_)
          · (try dsimp only)
            (first | (go_simp; done) | (go_keep; done))
          refine tq 0 hHeld ?_
          refine tq 1 hHeld ?_
          refine tq 2 hHeld ?_
          refine tq 3 hHeld ?_
          refine tq 4 hHeld ?_
          refine tq 5 hHeld ?_
          refine tc 6 fun K hK => ?_
          (go_simp
           replace hA := hA.dr
           replace hB := hB.dr
           replace hV := hV.dr
           replace hZ := hZ.dr
           replace hY := hY.dr
           replace hO := hO.dr
           replace hP := hP.dr
           replace hW := hW.drew
           replace hS := hS.drew
           (go_at_call 36; refine (pick_s rb (p1 + 601) _ _ (by exact hS) (by omega) (by omega) (by omega)).mono ?_; rintro e w6 ⟨v6, rfl, va6, vb6, hr6⟩)
           obtain ⟨j, hj⟩ : ∃ j : Nat, v6 = (j : Int) := ⟨v6.toNat, by omega⟩
           subst hj
           have hjm : j < m := (by omega)
           replace hA := hA.but (RB.but hr6) (by omega)
           replace hB := hB.but (RB.but hr6) (by omega)
           replace hV := hV.but (RB.but hr6) (by omega)
           replace hZ := hZ.but (RB.but hr6) (by omega)
           replace hY := hY.but (RB.but hr6) (by omega)
           replace hO := hO.btb (RB.but hr6) hB0
           replace hP := hP.btb (RB.but hr6) hB0
           replace hW := hW.trans (hr6.old (by omega) hW.size)
           replace hS := hr6.rs
           clear hZc0
           have hZc0 := hZ.cell 0 rfl
           (try go_wp2_with fail)
           refine tr hK (fun hHeld => ?_)
           clear hK K)
          refine tq 7 hHeld ?_
          refine tq 8 hHeld ?_
          refine tc 9 fun K hK => ?_
          (have u1 := hP.cellq (q := j * 5 + 1) (by omega)
           have u2 := hP.cellq (q := j * 5 + 2) (by omega)
           have u3 := hP.cellq (q := j * 5 + 3) (by omega)
           have u4 := hP.cellq (q := j * 5 + 4) (by omega)
           go_simp
           refine tr hK (fun hHeld => ?_)
           clear hK K)
          refine tc 10 fun K hK => ?_
          (have xc0 := hY.cell 0 rfl
           have xc1 := hY.cell 1 rfl
           have xc2 := hY.cell 2 rfl
           have xc3 := hY.cell 3 rfl
           have xf := hY.f
           go_simp
           clear xf xc0 xc1 xc2 xc3 hZc0
           replace hO := hO.stb (b := yb) (o := 0) (hY.ne hO neItBx) (.int .i64 (V (j * 5 + 1)))
           replace hP := hP.stb (b := yb) (o := 0) (hY.ne hP neItBx) (.int .i64 (V (j * 5 + 1)))
           replace hA := hA.far (b' := yb) (o := 0) (by omega) (.int .i64 (V (j * 5 + 1)))
           replace hB := hB.far (b' := yb) (o := 0) (by omega) (.int .i64 (V (j * 5 + 1)))
           replace hV := hV.far (b' := yb) (o := 0) (by omega) (.int .i64 (V (j * 5 + 1)))
           replace hZ := hZ.far (b' := yb) (o := 0) (by omega) (.int .i64 (V (j * 5 + 1)))
           replace hY := hY.put 0 (.int .i64 (V (j * 5 + 1)))
           replace hW := hW.setCell (p := ⟨yb, 0, none⟩) (by show w.heap.size ≤ yb; omega) (.int .i64 (V (j * 5 + 1)))
           replace hS := hS.setNew (a := ⟨yb, 0, none⟩) (by show rb < yb; omega) (.int .i64 (V (j * 5 + 1)))
           replace hO := hO.stb (b := yb) (o := 1) (hY.ne hO neItBx) (.int .i64 (V (j * 5 + 2)))
           replace hP := hP.stb (b := yb) (o := 1) (hY.ne hP neItBx) (.int .i64 (V (j * 5 + 2)))
           replace hA := hA.far (b' := yb) (o := 1) (by omega) (.int .i64 (V (j * 5 + 2)))
           replace hB := hB.far (b' := yb) (o := 1) (by omega) (.int .i64 (V (j * 5 + 2)))
           replace hV := hV.far (b' := yb) (o := 1) (by omega) (.int .i64 (V (j * 5 + 2)))
           replace hZ := hZ.far (b' := yb) (o := 1) (by omega) (.int .i64 (V (j * 5 + 2)))
           replace hY := hY.put 1 (.int .i64 (V (j * 5 + 2)))
           replace hW := hW.setCell (p := ⟨yb, 1, none⟩) (by show w.heap.size ≤ yb; omega) (.int .i64 (V (j * 5 + 2)))
           replace hS := hS.setNew (a := ⟨yb, 1, none⟩) (by show rb < yb; omega) (.int .i64 (V (j * 5 + 2)))
           replace hO := hO.stb (b := yb) (o := 2) (hY.ne hO neItBx) (.int .i64 (V (j * 5 + 3)))
           replace hP := hP.stb (b := yb) (o := 2) (hY.ne hP neItBx) (.int .i64 (V (j * 5 + 3)))
           replace hA := hA.far (b' := yb) (o := 2) (by omega) (.int .i64 (V (j * 5 + 3)))
           replace hB := hB.far (b' := yb) (o := 2) (by omega) (.int .i64 (V (j * 5 + 3)))
           replace hV := hV.far (b' := yb) (o := 2) (by omega) (.int .i64 (V (j * 5 + 3)))
           replace hZ := hZ.far (b' := yb) (o := 2) (by omega) (.int .i64 (V (j * 5 + 3)))
           replace hY := hY.put 2 (.int .i64 (V (j * 5 + 3)))
           replace hW := hW.setCell (p := ⟨yb, 2, none⟩) (by show w.heap.size ≤ yb; omega) (.int .i64 (V (j * 5 + 3)))
           replace hS := hS.setNew (a := ⟨yb, 2, none⟩) (by show rb < yb; omega) (.int .i64 (V (j * 5 + 3)))
           replace hO := hO.stb (b := yb) (o := 3) (hY.ne hO neItBx) (.int .i64 (V (j * 5 + 4)))
           replace hP := hP.stb (b := yb) (o := 3) (hY.ne hP neItBx) (.int .i64 (V (j * 5 + 4)))
           replace hA := hA.far (b' := yb) (o := 3) (by omega) (.int .i64 (V (j * 5 + 4)))
           replace hB := hB.far (b' := yb) (o := 3) (by omega) (.int .i64 (V (j * 5 + 4)))
           replace hV := hV.far (b' := yb) (o := 3) (by omega) (.int .i64 (V (j * 5 + 4)))
           replace hZ := hZ.far (b' := yb) (o := 3) (by omega) (.int .i64 (V (j * 5 + 4)))
           replace hY := hY.put 3 (.int .i64 (V (j * 5 + 4)))
           replace hW := hW.setCell (p := ⟨yb, 3, none⟩) (by show w.heap.size ≤ yb; omega) (.int .i64 (V (j * 5 + 4)))
           replace hS := hS.setNew (a := ⟨yb, 3, none⟩) (by show rb < yb; omega) (.int .i64 (V (j * 5 + 4)))
           have hZc0 := hZ.cell 0 rfl
           generalize ((((w6.setCell ⟨yb, 0, none⟩ (.int .i64 (V (j * 5 + 1)))).setCell ⟨yb, 1, none⟩ (.int .i64 (V (j * 5 + 2)))).setCell ⟨yb, 2, none⟩ (.int .i64 (V (j * 5 + 3)))).setCell ⟨yb, 3, none⟩ (.int .i64 (V (j * 5 + 4)))) = w11 at hS hW hA hB hV hZ hY hO hP hZc0 ⊢
           refine tr hK (fun hHeld => ?_)
           clear hK K)
          refine wpAnyH_done (by kernel_rfl) ?_ _
          go_wp2_with fail
          go_meet
          exact ⟨_, _, _, _, hS.mono (by omega), hW, hA, hB, hV, hZ, hY, hO, hP⟩
      case rest =>
      clear hS hW hA hB hV hZ hY hO hP
      obtain ⟨x, y, u, v, hS, hW, hA, hB, hV, hZ, hY, hO, hP⟩ := hcut
      refine hK8 _ _ ?_
      have hZc0 := hZ.cell 0 rfl
      have hYc0 := hY.cell 0 rfl
      have hYc1 := hY.cell 1 rfl
      have hYc2 := hY.cell 2 rfl
      have hYc3 := hY.cell 3 rfl
      go_upto_region 10 with fail
      go_cut [9, 10] (fun s9 s10 wc => ∃ (xb : Nat) (a5 : Option Addr) (N c5 : Nat) (Rr : Nat → Int) (B : Bool), s9 = .pointer (some ⟨xb, 0, none⟩) ∧ s10 = .bool B ∧ (B = true → N ≤ 24) ∧ vb < xb ∧ RS wc rb (p1 + 610) ∧ Below w.heap.size w wc ∧ Blk wc (w.heap.size) #[.slice none 0 0] 25 ∧ Blk wc (w.heap.size + 1) #[.slice none 0 0] 25 ∧ Blk wc (va) #[.slice a n c] 25 ∧ Blk wc (vb) #[.slice a1 m c1] 25 ∧ Blk wc (xb) #[.slice a5 N c5] 25 ∧ OwnL wc B0 31 5 (.slice a n c) n U ∧ OwnL wc B0 31 5 (.slice a1 m c1) m V ∧ OwnL wc B0 31 5 (.slice a5 N c5) N Rr)
      case first =>
        refine wp_region_held_drew (S := fun w' => w'.cell? ⟨vb, 0, none⟩ = some (.slice a1 m c1) ∧ w'.cell? ⟨yb, 0, none⟩ = some (.int .i64 x) ∧ w'.cell? ⟨yb, 1, none⟩ = some (.int .i64 y) ∧ w'.cell? ⟨yb, 2, none⟩ = some (.int .i64 u) ∧ w'.cell? ⟨yb, 3, none⟩ = some (.int .i64 v)) (by kernel_rfl) ?_ (fun hHeld => ?_)
        · (try dsimp only)
          (first | (go_simp; done) | (go_keep; done))
        refine tq 0 hHeld ?_
        refine tq 1 hHeld ?_
        refine tq 3 hHeld ?_
        refine wpAnyH_ready (rs := [2, 9]) (by kernel_rfl) (by simp) ?_
        refine AllReadyH.cons rfl (fun K hK => ?_) (AllReadyH.cons rfl (fun K hK => ?_) AllReadyH.nil)
        · (go_simp
           replace hA := hA.dr
           replace hB := hB.dr
           replace hV := hV.dr
           replace hZ := hZ.dr
           replace hY := hY.dr
           replace hO := hO.dr
           replace hP := hP.dr
           replace hW := hW.drew
           replace hS := hS.drew
           (go_at_call 36; refine (pick_s rb (p1 + 602) _ _ (by exact hS) (by omega) (by omega) (by omega)).mono ?_; rintro e w2 ⟨v2, rfl, va2, vb2, hr2⟩)
           replace hA := hA.but (RB.but hr2) (by omega)
           replace hB := hB.but (RB.but hr2) (by omega)
           replace hV := hV.but (RB.but hr2) (by omega)
           replace hZ := hZ.but (RB.but hr2) (by omega)
           replace hY := hY.but (RB.but hr2) (by omega)
           replace hO := hO.btb (RB.but hr2) hB0
           replace hP := hP.btb (RB.but hr2) hB0
           replace hW := hW.trans (hr2.old (by omega) hW.size)
           replace hS := hr2.rs
           clear hZc0 hYc0 hYc1 hYc2 hYc3
           have hZc0 := hZ.cell 0 rfl
           have hYc0 := hY.cell 0 rfl
           have hYc1 := hY.cell 1 rfl
           have hYc2 := hY.cell 2 rfl
           have hYc3 := hY.cell 3 rfl
           (try go_wp2_with fail)
           refine tr hK (fun hHeld => ?_)
           clear hK K)
          refine tq 4 hHeld ?_
          refine wpAnyH_ready (rs := [5, 9]) (by kernel_rfl) (by simp) ?_
          refine AllReadyH.cons rfl (fun K hK => ?_) (AllReadyH.cons rfl (fun K hK => ?_) AllReadyH.nil)
          · (go_simp
             obtain ⟨k, hk⟩ := isAt_ex m V ((fun jj => [v2, x, y, u, v].getD jj 0) 0)
             obtain ⟨N, Rr, B, hPu, hN1, hN2⟩ := putIs_ex m V (fun jj => [v2, x, y, u, v].getD jj 0) k
             (go_at_call 11; refine (sPut_own B0 a1 m c1 V (fun jj => [v2, x, y, u, v].getD jj 0) k _ (by exact hP) (by omega) hk N Rr B hPu).mono ?_; rintro e w5 ⟨a5, c5, rfl, hOu⟩)
             have hbu := hOu.bel
             have hQ := hOu.own.base (B := B0) (by have := hZ.lt; omega)
             replace hA := hA.on hbu
             replace hB := hB.on hbu
             replace hV := hV.on hbu
             replace hZ := hZ.on hbu
             replace hY := hY.on hbu
             replace hO := hO.below hbu
             replace hP := hP.below hbu
             replace hW := hW.trans (hbu.mono hW.size)
             replace hS := (hS.rb.upq hbu hS.lt).rs
             clear hZc0 hYc0 hYc1 hYc2 hYc3
             have hZc0 := hZ.cell 0 rfl
             have hYc0 := hY.cell 0 rfl
             have hYc1 := hY.cell 1 rfl
             have hYc2 := hY.cell 2 rfl
             have hYc3 := hY.cell 3 rfl
             (try go_wp2_with fail)
             refine tr hK (fun hHeld => ?_)
             clear hK K)
            refine tq 6 hHeld ?_
            refine tq 7 hHeld ?_
            refine tq 8 hHeld ?_
            refine tc 9 fun K hK => ?_
            (go_simp
             have hX := Blk.new w5 #[.slice none 0 0] 25
             have hxb : vb < w5.heap.size := hZ.lt
             have hxy : yb ≠ w5.heap.size := by have := hY.lt; omega
             replace hA := hA.al (.cells #[.slice none 0 0] 25)
             replace hB := hB.al (.cells #[.slice none 0 0] 25)
             replace hV := hV.al (.cells #[.slice none 0 0] 25)
             replace hZ := hZ.al (.cells #[.slice none 0 0] 25)
             replace hY := hY.al (.cells #[.slice none 0 0] 25)
             replace hO := hO.al (.cells #[.slice none 0 0] 25)
             replace hP := hP.al (.cells #[.slice none 0 0] 25)
             replace hQ := hQ.al (.cells #[.slice none 0 0] 25)
             replace hW := hW.alloc hW.size (.cells #[.slice none 0 0] 25)
             replace hS := hS.alloc (.cells #[.slice none 0 0] 25)
             clear hZc0 hYc0 hYc1 hYc2 hYc3
             
             have hZc0 := hZ.cell 0 rfl
             have hYc0 := hY.cell 0 rfl
             have hYc1 := hY.cell 1 rfl
             have hYc2 := hY.cell 2 rfl
             have hYc3 := hY.cell 3 rfl
             generalize (w5.alloc (.cells #[.slice none 0 0] 25)) = w9 at hS hW hA hB hV hZ hY hO hP hQ hX hZc0 hYc0 hYc1 hYc2 hYc3 ⊢
             generalize w5.heap.size = xb at hX hxb hxy ⊢
             refine tr hK (fun hHeld => ?_)
             clear hK K)
            refine tc 10 fun K hK => ?_
            (have xc := hX.cell 0 rfl
             have xf := hX.f 0
             go_simp
             clear xf xc hZc0 hYc0 hYc1 hYc2 hYc3
             replace hO := hO.stb (b := xb) (o := 0) (hX.ne hO neItBr) (.slice a5 N c5)
             replace hP := hP.stb (b := xb) (o := 0) (hX.ne hP neItBr) (.slice a5 N c5)
             replace hQ := hQ.stb (b := xb) (o := 0) (hX.ne hQ neItBr) (.slice a5 N c5)
             replace hA := hA.far (b' := xb) (o := 0) (by omega) (.slice a5 N c5)
             replace hB := hB.far (b' := xb) (o := 0) (by omega) (.slice a5 N c5)
             replace hV := hV.far (b' := xb) (o := 0) (by omega) (.slice a5 N c5)
             replace hZ := hZ.far (b' := xb) (o := 0) (by omega) (.slice a5 N c5)
             replace hY := hY.far (b' := xb) (o := 0) (by omega) (.slice a5 N c5)
             replace hX := hX.put 0 (.slice a5 N c5)
             replace hW := hW.setCell (p := ⟨xb, 0, none⟩) (by show w.heap.size ≤ xb; omega) (.slice a5 N c5)
             replace hS := hS.setNew (a := ⟨xb, 0, none⟩) (by show rb < xb; omega) (.slice a5 N c5)
             have hZc0 := hZ.cell 0 rfl
             have hYc0 := hY.cell 0 rfl
             have hYc1 := hY.cell 1 rfl
             have hYc2 := hY.cell 2 rfl
             have hYc3 := hY.cell 3 rfl
             generalize (w9.setCell ⟨xb, 0, none⟩ (.slice a5 N c5)) = w13 at hS hW hA hB hV hZ hY hX hO hP hQ hZc0 hYc0 hYc1 hYc2 hYc3 ⊢
             refine tr hK (fun hHeld => ?_)
             clear hK K)
            refine tq 11 hHeld ?_
            refine wpAnyH_done (by kernel_rfl) ?_ _
            go_wp2_with fail
            go_meet
            exact ⟨_, a5, N, c5, Rr, B, rfl, rfl, putIs_t24 hPu, hxb, hS.mono (by omega), hW, hA, hB, hV, hZ, hX, hO, hP, hQ⟩
          · (go_simp
             have hX := Blk.new w2 #[.slice none 0 0] 25
             have hxb : vb < w2.heap.size := hZ.lt
             have hxy : yb ≠ w2.heap.size := by have := hY.lt; omega
             replace hA := hA.al (.cells #[.slice none 0 0] 25)
             replace hB := hB.al (.cells #[.slice none 0 0] 25)
             replace hV := hV.al (.cells #[.slice none 0 0] 25)
             replace hZ := hZ.al (.cells #[.slice none 0 0] 25)
             replace hY := hY.al (.cells #[.slice none 0 0] 25)
             replace hO := hO.al (.cells #[.slice none 0 0] 25)
             replace hP := hP.al (.cells #[.slice none 0 0] 25)
             replace hW := hW.alloc hW.size (.cells #[.slice none 0 0] 25)
             replace hS := hS.alloc (.cells #[.slice none 0 0] 25)
             clear hZc0 hYc0 hYc1 hYc2 hYc3
             
             have hZc0 := hZ.cell 0 rfl
             have hYc0 := hY.cell 0 rfl
             have hYc1 := hY.cell 1 rfl
             have hYc2 := hY.cell 2 rfl
             have hYc3 := hY.cell 3 rfl
             generalize (w2.alloc (.cells #[.slice none 0 0] 25)) = w9 at hS hW hA hB hV hZ hY hO hP hX hZc0 hYc0 hYc1 hYc2 hYc3 ⊢
             generalize w2.heap.size = xb at hX hxb hxy ⊢
             refine tr hK (fun hHeld => ?_)
             clear hK K)
            refine tc 5 fun K hK => ?_
            (go_simp
             obtain ⟨k, hk⟩ := isAt_ex m V ((fun jj => [v2, x, y, u, v].getD jj 0) 0)
             obtain ⟨N, Rr, B, hPu, hN1, hN2⟩ := putIs_ex m V (fun jj => [v2, x, y, u, v].getD jj 0) k
             (go_at_call 11; refine (sPut_own B0 a1 m c1 V (fun jj => [v2, x, y, u, v].getD jj 0) k _ (by exact hP) (by omega) hk N Rr B hPu).mono ?_; rintro e w5 ⟨a5, c5, rfl, hOu⟩)
             have hbu := hOu.bel
             have hQ := hOu.own.base (B := B0) (by have := hZ.lt; omega)
             replace hA := hA.on hbu
             replace hB := hB.on hbu
             replace hV := hV.on hbu
             replace hZ := hZ.on hbu
             replace hY := hY.on hbu
             replace hX := hX.on hbu
             replace hO := hO.below hbu
             replace hP := hP.below hbu
             replace hW := hW.trans (hbu.mono hW.size)
             replace hS := (hS.rb.upq hbu hS.lt).rs
             clear hZc0 hYc0 hYc1 hYc2 hYc3
             have hZc0 := hZ.cell 0 rfl
             have hYc0 := hY.cell 0 rfl
             have hYc1 := hY.cell 1 rfl
             have hYc2 := hY.cell 2 rfl
             have hYc3 := hY.cell 3 rfl
             (try go_wp2_with fail)
             refine tr hK (fun hHeld => ?_)
             clear hK K)
            refine tq 6 hHeld ?_
            refine tq 7 hHeld ?_
            refine tq 8 hHeld ?_
            refine tc 10 fun K hK => ?_
            (have xc := hX.cell 0 rfl
             have xf := hX.f 0
             go_simp
             clear xf xc hZc0 hYc0 hYc1 hYc2 hYc3
             replace hO := hO.stb (b := xb) (o := 0) (hX.ne hO neItBr) (.slice a5 N c5)
             replace hP := hP.stb (b := xb) (o := 0) (hX.ne hP neItBr) (.slice a5 N c5)
             replace hQ := hQ.stb (b := xb) (o := 0) (hX.ne hQ neItBr) (.slice a5 N c5)
             replace hA := hA.far (b' := xb) (o := 0) (by omega) (.slice a5 N c5)
             replace hB := hB.far (b' := xb) (o := 0) (by omega) (.slice a5 N c5)
             replace hV := hV.far (b' := xb) (o := 0) (by omega) (.slice a5 N c5)
             replace hZ := hZ.far (b' := xb) (o := 0) (by omega) (.slice a5 N c5)
             replace hY := hY.far (b' := xb) (o := 0) (by omega) (.slice a5 N c5)
             replace hX := hX.put 0 (.slice a5 N c5)
             replace hW := hW.setCell (p := ⟨xb, 0, none⟩) (by show w.heap.size ≤ xb; omega) (.slice a5 N c5)
             replace hS := hS.setNew (a := ⟨xb, 0, none⟩) (by show rb < xb; omega) (.slice a5 N c5)
             have hZc0 := hZ.cell 0 rfl
             have hYc0 := hY.cell 0 rfl
             have hYc1 := hY.cell 1 rfl
             have hYc2 := hY.cell 2 rfl
             have hYc3 := hY.cell 3 rfl
             generalize (w5.setCell ⟨xb, 0, none⟩ (.slice a5 N c5)) = w13 at hS hW hA hB hV hZ hY hX hO hP hQ hZc0 hYc0 hYc1 hYc2 hYc3 ⊢
             refine tr hK (fun hHeld => ?_)
             clear hK K)
            refine tq 11 hHeld ?_
            refine wpAnyH_done (by kernel_rfl) ?_ _
            go_wp2_with fail
            go_meet
            exact ⟨_, a5, N, c5, Rr, B, rfl, rfl, putIs_t24 hPu, hxb, hS.mono (by omega), hW, hA, hB, hV, hZ, hX, hO, hP, hQ⟩
        · (go_simp
           have hX := Blk.new wc #[.slice none 0 0] 25
           have hxb : vb < wc.heap.size := hZ.lt
           have hxy : yb ≠ wc.heap.size := by have := hY.lt; omega
           replace hA := hA.al (.cells #[.slice none 0 0] 25)
           replace hB := hB.al (.cells #[.slice none 0 0] 25)
           replace hV := hV.al (.cells #[.slice none 0 0] 25)
           replace hZ := hZ.al (.cells #[.slice none 0 0] 25)
           replace hY := hY.al (.cells #[.slice none 0 0] 25)
           replace hO := hO.al (.cells #[.slice none 0 0] 25)
           replace hP := hP.al (.cells #[.slice none 0 0] 25)
           replace hW := hW.alloc hW.size (.cells #[.slice none 0 0] 25)
           replace hS := hS.alloc (.cells #[.slice none 0 0] 25)
           clear hZc0 hYc0 hYc1 hYc2 hYc3
           replace hA := hA.dr
           replace hB := hB.dr
           replace hV := hV.dr
           replace hZ := hZ.dr
           replace hY := hY.dr
           replace hO := hO.dr
           replace hP := hP.dr
           replace hW := hW.drew
           replace hS := hS.drew
           replace hX := hX.dr
           have hZc0 := hZ.cell 0 rfl
           have hYc0 := hY.cell 0 rfl
           have hYc1 := hY.cell 1 rfl
           have hYc2 := hY.cell 2 rfl
           have hYc3 := hY.cell 3 rfl
           generalize (wc.alloc (.cells #[.slice none 0 0] 25)).drew = w9 at hS hW hA hB hV hZ hY hO hP hX hZc0 hYc0 hYc1 hYc2 hYc3 ⊢
           generalize wc.heap.size = xb at hX hxb hxy ⊢
           refine tr hK (fun hHeld => ?_)
           clear hK K)
          refine tc 2 fun K hK => ?_
          (go_simp
           (go_at_call 36; refine (pick_s rb (p1 + 602) _ _ (by exact hS) (by omega) (by omega) (by omega)).mono ?_; rintro e w2 ⟨v2, rfl, va2, vb2, hr2⟩)
           replace hA := hA.but (RB.but hr2) (by omega)
           replace hB := hB.but (RB.but hr2) (by omega)
           replace hV := hV.but (RB.but hr2) (by omega)
           replace hZ := hZ.but (RB.but hr2) (by omega)
           replace hY := hY.but (RB.but hr2) (by omega)
           replace hX := hX.but (RB.but hr2) (by omega)
           replace hO := hO.btb (RB.but hr2) hB0
           replace hP := hP.btb (RB.but hr2) hB0
           replace hW := hW.trans (hr2.old (by omega) hW.size)
           replace hS := hr2.rs
           clear hZc0 hYc0 hYc1 hYc2 hYc3
           have hZc0 := hZ.cell 0 rfl
           have hYc0 := hY.cell 0 rfl
           have hYc1 := hY.cell 1 rfl
           have hYc2 := hY.cell 2 rfl
           have hYc3 := hY.cell 3 rfl
           (try go_wp2_with fail)
           refine tr hK (fun hHeld => ?_)
           clear hK K)
          refine tq 4 hHeld ?_
          refine tc 5 fun K hK => ?_
          (go_simp
           obtain ⟨k, hk⟩ := isAt_ex m V ((fun jj => [v2, x, y, u, v].getD jj 0) 0)
           obtain ⟨N, Rr, B, hPu, hN1, hN2⟩ := putIs_ex m V (fun jj => [v2, x, y, u, v].getD jj 0) k
           (go_at_call 11; refine (sPut_own B0 a1 m c1 V (fun jj => [v2, x, y, u, v].getD jj 0) k _ (by exact hP) (by omega) hk N Rr B hPu).mono ?_; rintro e w5 ⟨a5, c5, rfl, hOu⟩)
           have hbu := hOu.bel
           have hQ := hOu.own.base (B := B0) (by have := hZ.lt; omega)
           replace hA := hA.on hbu
           replace hB := hB.on hbu
           replace hV := hV.on hbu
           replace hZ := hZ.on hbu
           replace hY := hY.on hbu
           replace hX := hX.on hbu
           replace hO := hO.below hbu
           replace hP := hP.below hbu
           replace hW := hW.trans (hbu.mono hW.size)
           replace hS := (hS.rb.upq hbu hS.lt).rs
           clear hZc0 hYc0 hYc1 hYc2 hYc3
           have hZc0 := hZ.cell 0 rfl
           have hYc0 := hY.cell 0 rfl
           have hYc1 := hY.cell 1 rfl
           have hYc2 := hY.cell 2 rfl
           have hYc3 := hY.cell 3 rfl
           (try go_wp2_with fail)
           refine tr hK (fun hHeld => ?_)
           clear hK K)
          refine tq 6 hHeld ?_
          refine tq 7 hHeld ?_
          refine tq 8 hHeld ?_
          refine tc 10 fun K hK => ?_
          (have xc := hX.cell 0 rfl
           have xf := hX.f 0
           go_simp
           clear xf xc hZc0 hYc0 hYc1 hYc2 hYc3
           replace hO := hO.stb (b := xb) (o := 0) (hX.ne hO neItBr) (.slice a5 N c5)
           replace hP := hP.stb (b := xb) (o := 0) (hX.ne hP neItBr) (.slice a5 N c5)
           replace hQ := hQ.stb (b := xb) (o := 0) (hX.ne hQ neItBr) (.slice a5 N c5)
           replace hA := hA.far (b' := xb) (o := 0) (by omega) (.slice a5 N c5)
           replace hB := hB.far (b' := xb) (o := 0) (by omega) (.slice a5 N c5)
           replace hV := hV.far (b' := xb) (o := 0) (by omega) (.slice a5 N c5)
           replace hZ := hZ.far (b' := xb) (o := 0) (by omega) (.slice a5 N c5)
           replace hY := hY.far (b' := xb) (o := 0) (by omega) (.slice a5 N c5)
           replace hX := hX.put 0 (.slice a5 N c5)
           replace hW := hW.setCell (p := ⟨xb, 0, none⟩) (by show w.heap.size ≤ xb; omega) (.slice a5 N c5)
           replace hS := hS.setNew (a := ⟨xb, 0, none⟩) (by show rb < xb; omega) (.slice a5 N c5)
           have hZc0 := hZ.cell 0 rfl
           have hYc0 := hY.cell 0 rfl
           have hYc1 := hY.cell 1 rfl
           have hYc2 := hY.cell 2 rfl
           have hYc3 := hY.cell 3 rfl
           generalize (w5.setCell ⟨xb, 0, none⟩ (.slice a5 N c5)) = w13 at hS hW hA hB hV hZ hY hX hO hP hQ hZc0 hYc0 hYc1 hYc2 hYc3 ⊢
           refine tr hK (fun hHeld => ?_)
           clear hK K)
          refine tq 11 hHeld ?_
          refine wpAnyH_done (by kernel_rfl) ?_ _
          go_wp2_with fail
          go_meet
          exact ⟨_, a5, N, c5, Rr, B, rfl, rfl, putIs_t24 hPu, hxb, hS.mono (by omega), hW, hA, hB, hV, hZ, hX, hO, hP, hQ⟩
      case rest =>
      clear hS hW hA hB hV hZ hY hO hP hZc0 hYc0 hYc1 hYc2 hYc3
      obtain ⟨xb, a5, N, c5, Rr, B, rfl, rfl, hN, hxb, hS, hW, hA, hB, hV, hZ, hX, hO, hP, hQ⟩ := hcut
      cases B with
      | false =>
        go_wp2_with fail
        go_roundw
        case rel => exact ⟨r - 1, a1, m, c1, V, by first | go_num | (congr 1; omega), by omega, hm, hS.mono (by omega), hW, hA, hB, hV, hZ, hO, hP⟩
        case measure => simp [intOf]; omega
      | true =>
        have hN24 := hN rfl
        have xc := hX.cell 0 rfl
        have zc := hZ.cell 0 rfl
        have zf := hZ.f 0
        go_wp2_with fail
        clear xc zc zf
        replace hO := hO.stb (b := vb) (o := 0) (hZ.ne hO neItBr) (.slice a5 N c5)
        replace hQ := hQ.stb (b := vb) (o := 0) (hZ.ne hQ neItBr) (.slice a5 N c5)
        replace hA := hA.far (b' := vb) (o := 0) (by omega) (.slice a5 N c5)
        replace hB := hB.far (b' := vb) (o := 0) (by omega) (.slice a5 N c5)
        replace hV := hV.far (b' := vb) (o := 0) (by omega) (.slice a5 N c5)
        replace hX := hX.far (b' := vb) (o := 0) (by omega) (.slice a5 N c5)
        replace hZ := hZ.put 0 (.slice a5 N c5)
        replace hW := hW.setCell (p := ⟨vb, 0, none⟩) (by show w.heap.size ≤ vb; omega) (.slice a5 N c5)
        replace hS := hS.setNew (a := ⟨vb, 0, none⟩) (by show rb < vb; omega) (.slice a5 N c5)
        go_roundw
        case rel => exact ⟨r - 1, a5, N, c5, Rr, by first | go_num | (congr 1; omega), by omega, by omega, hS.mono (by omega), hW, hA, hB, hV, hZ, hO, hQ⟩
        case measure => simp [intOf]; omega
    · have hr00 : ¬ (0 : Int) < (r : Int) := by omega
      have hVc0 := hV.cell 0 rfl
      have hZc0 := hZ.cell 0 rfl
      go_upto_region 13 with fail
      refine wp_region_held_drew (S := fun w' => w'.cell? ⟨va, 0, none⟩ = some (.slice a n c) ∧ w'.cell? ⟨vb, 0, none⟩ = some (.slice a1 m c1)) (by kernel_rfl) ?_ (fun hHeld => ?_)
      · (try dsimp only)
        (first | (go_simp; done) | (go_keep; done))
      refine tq 0 hHeld ?_
      refine tq 1 hHeld ?_
      refine tc 2 fun K hK => ?_
      (have yc := hA.cell 0 rfl
       have yf := hA.f 0
       go_simp
       clear yc yf hVc0 hZc0
       clear hS
       replace hO := hO.stb (b := w.heap.size) (o := 0) (hA.ne hO neItBr) (.slice a n c)
       replace hP := hP.stb (b := w.heap.size) (o := 0) (hA.ne hP neItBr) (.slice a n c)
       replace hB := hB.far (b' := w.heap.size) (o := 0) (by omega) (.slice a n c)
       replace hV := hV.far (b' := w.heap.size) (o := 0) (by omega) (.slice a n c)
       replace hZ := hZ.far (b' := w.heap.size) (o := 0) (by omega) (.slice a n c)
       replace hA := hA.put 0 (.slice a n c)
       replace hW := hW.setCell (p := ⟨w.heap.size, 0, none⟩) (by show w.heap.size ≤ w.heap.size; omega) (.slice a n c)
       replace hA := hA.dr
       replace hB := hB.dr
       replace hV := hV.dr
       replace hZ := hZ.dr
       replace hO := hO.dr
       replace hP := hP.dr
       replace hW := hW.drew
       have hVc0 := hV.cell 0 rfl
       have hZc0 := hZ.cell 0 rfl
       generalize (wr.setCell ⟨w.heap.size, 0, none⟩ (.slice a n c)).drew = w20 at hW hA hB hV hZ hO hP hVc0 hZc0 ⊢
       refine tr hK (fun hHeld => ?_)
       clear hK K)
      refine tc 3 fun K hK => ?_
      (have yc := hB.cell 0 rfl
       have yf := hB.f 0
       go_simp
       clear yc yf hVc0 hZc0
       replace hO := hO.stb (b := w.heap.size + 1) (o := 0) (hB.ne hO neItBr) (.slice a1 m c1)
       replace hP := hP.stb (b := w.heap.size + 1) (o := 0) (hB.ne hP neItBr) (.slice a1 m c1)
       replace hA := hA.far (b' := w.heap.size + 1) (o := 0) (by omega) (.slice a1 m c1)
       replace hV := hV.far (b' := w.heap.size + 1) (o := 0) (by omega) (.slice a1 m c1)
       replace hZ := hZ.far (b' := w.heap.size + 1) (o := 0) (by omega) (.slice a1 m c1)
       replace hB := hB.put 0 (.slice a1 m c1)
       replace hW := hW.setCell (p := ⟨w.heap.size + 1, 0, none⟩) (by show w.heap.size ≤ w.heap.size + 1; omega) (.slice a1 m c1)
       
       have hVc0 := hV.cell 0 rfl
       have hZc0 := hZ.cell 0 rfl
       generalize (w20.setCell ⟨w.heap.size + 1, 0, none⟩ (.slice a1 m c1)) = w21 at hW hA hB hV hZ hO hP hVc0 hZc0 ⊢
       refine tr hK (fun hHeld => ?_)
       clear hK K)
      refine wpAnyH_done (by kernel_rfl) ?_ _
      go_wp2_with fail
      clear hVc0 hZc0
      have y0 := hA.cell 0 rfl
      have y1 := hB.cell 0 rfl
      exact bodyPost_ret (v := .tuple #[.agg #[.slice a n c], .agg #[.slice a1 m c1]]) (by simp [results, Try.results30, go_sem, y0, y1]) rfl (by unfold DrN; exact ⟨a, n, c, U, a1, m, c1, V, rfl, hn, hm, hW, hO.base (by omega), hP.base (by omega)⟩)
end Go.Proofs.Ytbngdlbecdloiaa
