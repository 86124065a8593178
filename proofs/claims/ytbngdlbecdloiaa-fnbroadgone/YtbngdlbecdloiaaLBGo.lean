/- The walk of the law of promise 19. -/
import Derived.Test.YtbngdlbecdloiaaDrawBg
import Derived.Test.YtbngdlbecdloiaaBrGm
import Derived.Test.YtbngdlbecdloiaaPqI
import Derived.Test.YtbngdlbecdloiaaBrGo
import Derived.Deep.RegionHeld3
import Derived.Deep.DeepCutAuto
set_option maxHeartbeats 16000000
set_option maxRecDepth 20000
namespace Go.Proofs.Ytbngdlbecdloiaa
open Go.RowKit
set_option linter.unusedVariables false
set_option linter.unusedSimpArgs false
theorem bpV_at (U : Nat → Int) : ∀ (l : List (Nat × Nat)) (i x y : Nat), l[i]? = some (x, y) → ofL (bpV U l) (i * 2) = U (x * 5) ∧ ofL (bpV U l) (i * 2 + 1) = U (y * 5)
  | [], i, x, y, h => by simp at h
  | p :: l, 0, x, y, h => by
    simp only [List.getElem?_cons_zero, Option.some.injEq] at h
    subst h
    exact ⟨rfl, rfl⟩
  | p :: l, i + 1, x, y, h => by
    rw [List.getElem?_cons_succ] at h
    have q := bpV_at U l i x y h
    rw [bpV]
    refine ⟨Eq.trans ?_ q.1, Eq.trans ?_ q.2⟩
    · show (U (p.1 * 5) :: U (p.2 * 5) :: bpV U l).getD ((i + 1) * 2) 0 = _
      rw [show (i + 1) * 2 = i * 2 + 1 + 1 by omega, List.getD_cons_succ, List.getD_cons_succ]; rfl
    · show (U (p.1 * 5) :: U (p.2 * 5) :: bpV U l).getD ((i + 1) * 2 + 1) 0 = _
      rw [show (i + 1) * 2 + 1 = i * 2 + 1 + 1 + 1 by omega, List.getD_cons_succ, List.getD_cons_succ]; rfl
structure Gt (n N k : Nat) (id : Int) (U R : Nat → Int) : Prop where
  hb : broadB n U = true
  lt : k < n
  at_ : U (k * 5) = id
  one : N + 1 = n
  ok : broadB N R = true
  isat : IsAt N R id k
  no : thereB N R id k = false
  len : bpN N R = ((bpL n U n).filter (idN U id)).length
  pairs : bpT N R = bpV U ((bpL n U n).filter (idN U id))
theorem gt_of {n N k : Nat} {id : Int} {U R : Nat → Int} (hk : IsAt n U id k) (h : GoIs n U id k N R true) : Gt n N k id U R := by
  rcases h with ⟨_, _, h1⟩ | ⟨_, _, _, h1, _⟩ | ⟨hb, ht, hN, _, rfl⟩
  · cases h1
  · cases h1
  · have ht' := there_t ht
    have hid := gone_ids hb ht'.1 ht'.2 hN
    have hlo : ∀ j, j < k → cat (k * 5) U (fun q => U (q + (k + 1) * 5)) (j * 5) = U (j * 5) := fun j hj => by unfold cat; rw [if_pos (by omega)]
    have hhi : k < N → ¬ cat (k * 5) U (fun q => U (q + (k + 1) * 5)) (k * 5) < id := fun hkN => by
      unfold cat
      rw [if_neg (by omega)]
      show ¬ U (k * 5 - k * 5 + (k + 1) * 5) < id
      rw [show k * 5 - k * 5 + (k + 1) * 5 = (k + 1) * 5 by omega]
      have := broad_asc hb (show k < k + 1 by omega) (show k + 1 < n by omega)
      omega
    refine ⟨hb, ht'.1, ht'.2, hN, gone_ok (id := id) hb ht'.1 hN, ⟨by have := ht'.1; omega, fun j hj => by rw [hlo j hj]; exact hk.low j hj, hhi⟩, ?_, gone_len hb ht'.1 ht'.2 hN, gone_pairs hb ht'.1 ht'.2 hN⟩
    unfold thereB
    rw [decide_eq_false]
    rintro ⟨h1, h2⟩
    exact hid k h1 h2
theorem Gt.again {n N k : Nat} {id : Int} {U R : Nat → Int} (h : Gt n N k id U R) : GoIs N R id k N R false := .inr (.inl ⟨h.ok, h.no, rfl, rfl, rfl⟩)
theorem idf_in {U : Nat → Int} {id : Int} {x y : Nat} (h : idN U id (x, y) = true) : [(x, y)].filter (idN U id) = [(x, y)] := by simp [h]
theorem idf_out {U : Nat → Int} {id : Int} {x y : Nat} (h : idN U id (x, y) = false) : [(x, y)].filter (idN U id) = [] := by simp [h]
set_option maxRecDepth 20000 in
set_option maxHeartbeats 8000000 in
theorem fnBroadGone_walk (ac : Option Addr) (len cap : Nat) (w : World) (hb : Bytes w ac len cap) :
    Calls Try.prog 4 #[.slice ac len cap] w fun e w' => e = .returned (.bool true) ∧ Below w.heap.size w w' := by
  have hset := cset_map
  by_cases hlen : 1048576 < len
  · have hl : (1048576 : Int) < (len : Int) := by omega
    go_enter Try.func4, Try.ntmps4
    go_wp2_with fail
    go_ret
    exact ⟨rfl, Below.refl _ _⟩
  have hl : ¬ (1048576 : Int) < (len : Int) := by omega
  go_enter Try.func4, Try.ntmps4
  go_upto_region 3 with fail
  go_cut [3, 4] (fun s3 s4 wc => ∃ (bb : Nat) (a : Option Addr) (n c : Nat) (U : Nat → Int) (id : Int), s3 = .pointer (some ⟨bb, 0, none⟩) ∧ s4 = .int .i64 id ∧ n ≤ 25 ∧ Below w.heap.size w wc ∧ Blk wc bb #[.slice a n c] 25 ∧ OwnL wc w.heap.size 31 5 (.slice a n c) n U)
  case first =>
    go_wp2_with (go_at_call 18; refine (drawBroadGone_k _ _ _ _ hb).mono ?_; rintro e w1 ⟨a, n, c, U, id, rfl, hn, hb1, hO1⟩)
    go_meet
    exact ⟨_, a, n, c, U, id, rfl, rfl, hn, hb1.alloc hb1.size _, Blk.new _ _ _, hO1.al _⟩
  case rest =>
  obtain ⟨bb, a, n, c, U, id, rfl, rfl, hn, bel, hA, hO⟩ := hcut
  obtain ⟨k, hk⟩ := isAt_ex n U id
  obtain ⟨N, R, B, hGo, hN1⟩ := goIs_ex n U id k
  have hAc0 := hA.cell 0 rfl
  go_upto_region 4 with fail
  go_cut [5, 6] (fun s0 s1 wc => ∃ (yb : Nat) (a1 : Option Addr) (c1 : Nat), s0 = .pointer (some ⟨yb, 0, none⟩) ∧ s1 = .bool B ∧ Below w.heap.size w wc ∧ Blk wc bb #[.slice a n c] 25 ∧ Blk wc yb #[.slice a1 N c1] 25 ∧ OwnL wc w.heap.size 31 5 (.slice a n c) n U ∧ OwnL wc w.heap.size 31 5 (.slice a1 N c1) N R)
  case first =>
    go_wp2_with (go_at_call 15; refine (gone_any a n c U id k _ hO.flat hO.le (by omega) hk N R B hGo).mono ?_; rintro e w2 ⟨a1, c1, rfl, hOu⟩)
    go_meet
    have bz := hOu.bel.alloc hOu.bel.size (.cells #[.slice a1 N c1] 25)
    exact ⟨_, a1, c1, rfl, rfl, bel.trans (bz.mono bel.size), hA.on bz, Blk.new _ _ _, hO.below bz, (hOu.own.base bel.size).al _⟩
  case rest =>
  clear bel hA hO hAc0
  obtain ⟨yb, a1, c1, rfl, rfl, bel, hA, hY, hO, hP⟩ := hcut
  have hAc0 := hA.cell 0 rfl
  have hYc0 := hY.cell 0 rfl
  go_upto_region 5 with fail
  go_cut [7, 8] (fun s0 s1 wc => ∃ (wb : Nat) (a2 : Option Addr) (c2 : Nat), s0 = .pointer (some ⟨wb, 0, none⟩) ∧ s1 = .bool B ∧ Below w.heap.size w wc ∧ Blk wc bb #[.slice a n c] 25 ∧ Blk wc yb #[.slice a1 N c1] 25 ∧ Blk wc wb #[.slice a2 N c2] 25 ∧ OwnL wc w.heap.size 31 5 (.slice a n c) n U ∧ OwnL wc w.heap.size 31 5 (.slice a1 N c1) N R ∧ OwnL wc w.heap.size 31 5 (.slice a2 N c2) N R)
  case first =>
    go_wp2_with (go_at_call 19; refine (sGone_any a n c U id k _ hO.flat hO.le (by omega) hk N R B hGo).mono ?_; rintro e w2 ⟨a2, c2, rfl, hOu⟩)
    go_meet
    have bz := hOu.bel.alloc hOu.bel.size (.cells #[.slice a2 N c2] 25)
    exact ⟨_, a2, c2, rfl, rfl, bel.trans (bz.mono bel.size), hA.on bz, hY.on bz, Blk.new _ _ _, hO.below bz, hP.below bz, (hOu.own.base bel.size).al _⟩
  case rest =>
  clear bel hA hY hO hP hAc0 hYc0
  obtain ⟨wb, a2, c2, rfl, rfl, bel, hA, hY, hW, hO, hP, hQ⟩ := hcut
  have hAc0 := hA.cell 0 rfl
  have hYc0 := hY.cell 0 rfl
  have hWc0 := hW.cell 0 rfl
  have HGo : Shut (GoIs n U id k N R B) := hGo
  clear hGo
  have hBB : (B != B) = false := by simp
  have hBE : (B == B) = true := by simp
  go_upto_region 6 with fail
  go_cut [46] (fun s wc => s = .bool (!B) ∧ Below w.heap.size w wc ∧ Blk wc bb #[.slice a n c] 25 ∧ Blk wc yb #[.slice a1 N c1] 25 ∧ Blk wc wb #[.slice a2 N c2] 25 ∧ OwnL wc w.heap.size 31 5 (.slice a n c) n U ∧ OwnL wc w.heap.size 31 5 (.slice a1 N c1) N R ∧ OwnL wc w.heap.size 31 5 (.slice a2 N c2) N R)
  case first =>
    go_wp2_with (go_at_call 12; refine (pqBroad_eq a1 a2 N _ _ R _ hP.flat hQ.flat (by omega)).mono ?_; rintro e w6 ⟨rfl, hb6⟩)
    go_meet
    exact ⟨by simp, bel.trans (hb6.mono bel.size), hA.on hb6, hY.on hb6, hW.on hb6, hO.below hb6, hP.below hb6, hQ.below hb6⟩
  case rest =>
  clear bel hA hY hW hO hP hQ hAc0 hYc0 hWc0
  obtain ⟨rfl, bel, hA, hY, hW, hO, hP, hQ⟩ := hcut
  have hAc0 := hA.cell 0 rfl
  have hYc0 := hY.cell 0 rfl
  have hWc0 := hW.cell 0 rfl
  cases B with
  | false =>
    go_wp2_with (go_at_call 12; refine (pqBroad_eq a1 a2 N _ _ R _ hP.flat hQ.flat (by omega)).mono ?_; rintro e w6 ⟨rfl, hb6⟩)
    go_ret
    exact ⟨rfl, bel.trans (hb6.mono bel.size)⟩
  | true =>
    have hG : Shut (Gt n N k id U R) := gt_of hk HGo.out
    clear HGo hBB hBE
    obtain ⟨J, hJ0⟩ : ∃ j, bpN n U = j := ⟨_, rfl⟩
    have hJ5 : J ≤ 576 := by have := bpN_le n U; omega
    have hJ : Shut (bpN n U = J) := hJ0
    have hJL : Shut ((bpL n U n).length = J) := by rw [← hJ0]; unfold bpN; rw [hG.out.hb]; exact (rfl : _ = _)
    clear hJ0
    obtain ⟨V, hV0⟩ : ∃ v, v = ofL (bpT n U) := ⟨_, rfl⟩
    have hV : Shut (V = ofL (bpT n U)) := hV0
    have hVL : Shut (V = ofL (bpV U (bpL n U n))) := by rw [hV0]; unfold bpT; rw [hG.out.hb]; exact (rfl : _ = _)
    clear hV0
    go_upto_region 8 with fail
    go_cut [9] (fun s wc => ∃ (a3 : Option Addr) (c3 : Nat), s = .slice a3 J c3 ∧ Below w.heap.size w wc ∧ Blk wc bb #[.slice a n c] 25 ∧ Blk wc yb #[.slice a1 N c1] 25 ∧ Blk wc wb #[.slice a2 N c2] 25 ∧ OwnL wc w.heap.size 31 5 (.slice a n c) n U ∧ OwnL wc w.heap.size 31 5 (.slice a1 N c1) N R ∧ OwnL wc w.heap.size 31 5 (.slice a2 N c2) N R ∧ OwnL wc w.heap.size 48 2 (.slice a3 J c3) J V)
    case first =>
      go_wp2_with (go_at_call 20; refine (pairs_i a n c U J V _ hO.flat (by omega) hJ.out hV.out).mono ?_; rintro e w8 ⟨a3, c3, rfl, hOu⟩)
      go_meet
      have bz := hOu.bel
      exact ⟨a3, c3, rfl, bel.trans (bz.mono bel.size), hA.on bz, hY.on bz, hW.on bz, hO.below bz, hP.below bz, hQ.below bz, hOu.own.base bel.size⟩
    case rest =>
    clear bel hA hY hW hO hP hQ hAc0 hYc0 hWc0
    obtain ⟨a3, c3, rfl, bel, hA, hY, hW, hO, hP, hQ, hL⟩ := hcut
    obtain ⟨wk, rfl⟩ : ∃ x, x = wc := ⟨_, rfl⟩
    have hLn := LsV.new wk 48 2
    have hJ' := hJL.out
    go_upto_region 10 with fail
    generalize (wk.alloc (.cells #[] 48)) = wl at hLn ⊢
    go_wp2_with fail
    go_loopw [10, 11] (fun s10 s11 wr => ∃ i a' m c', i ≤ J ∧ s11 = .int .i64 (i : Int) ∧ s10 = .slice a' m c' ∧ Shut ((((bpL n U n).take i).filter (idN U id)).length = m) ∧ LsV wk wr 48 2 a' m c' (bpV U (((bpL n U n).take i).filter (idN U id)))) (fun _ s11 _ => J - (intOf s11).toNat)
    case atStart => exact ⟨0, _, _, _, Nat.zero_le _, rfl, rfl, rfl, hLn⟩
    case round =>
      obtain ⟨i, a4, m, c4, hi, rfl, rfl, hm, hL8⟩ := hrel
      by_cases hlt : i < J
      · have hil : (i : Int) < (J : Int) := by omega
        obtain ⟨⟨x, y⟩, hxy⟩ : ∃ p, (bpL n U n)[i]? = some p := ⟨_, List.getElem?_eq_getElem (by omega)⟩
        obtain ⟨v0, v1⟩ := bpV_at U (bpL n U n) i x y hxy
        rw [← hVL.out] at v0 v1
        obtain ⟨b, o, rfl, hbn, hc⟩ := (hL.below hL8.bel).flat (by omega)
        have c0 := hc (i * 2) (by omega)
        have c1 := hc (i * 2 + 1) (by omega)
        rw [← Nat.add_assoc] at c1
        rw [v0] at c0
        rw [v1] at c1
        have hnx : ((bpL n U n).take (i + 1)).filter (idN U id) = ((bpL n U n).take i).filter (idN U id) ++ [(x, y)].filter (idN U id) := by rw [List.take_add_one, hxy, List.filter_append]; rfl
        have hm5 : m ≤ 576 := by
          have h1 := hm.out
          have h2 := List.length_filter_le (idN U id) ((bpL n U n).take i)
          have h3 : ((bpL n U n).take i).length ≤ (bpL n U n).length := List.length_take_le' _ _
          omega
        clear hc v0 v1 hLn hJ' hxy
        cases hq : idN U id (x, y) with
        | false =>
          rw [idf_out hq, List.append_nil] at hnx
          have hR : ∃ i', i' = i + 1 := ⟨_, rfl⟩
          unfold idN at hq
          cases e1 : (U (x * 5) != id) with
          | false =>
            clear hq
            go_wp2_with fail
            go_roundw
            case rel => exact ⟨i + 1, _, _, _, by omega, by go_num, rfl, by rw [hnx]; exact hm, by rw [hnx]; exact hL8⟩
            case measure => simp [intOf]; omega
          | true =>
            have e2 : (U (y * 5) != id) = false := by simpa [e1] using hq
            clear hq
            go_wp2_with fail
            go_roundw
            case rel => exact ⟨i + 1, _, _, _, by omega, by go_num, rfl, by rw [hnx]; exact hm, by rw [hnx]; exact hL8⟩
            case measure => simp [intOf]; omega
        | true =>
          rw [idf_in hq] at hnx
          have e1 : (U (x * 5) != id) = true := by unfold idN at hq; rw [Bool.and_eq_true] at hq; exact hq.1
          have e2 : (U (y * 5) != id) = true := by unfold idN at hq; rw [Bool.and_eq_true] at hq; exact hq.2
          clear hq
          generalize hl : bpV U (((bpL n U n).take i).filter (idN U id)) = l at hL8
          have hE := (Below.refl wr.heap.size wr).alloc (Nat.le_refl _) (Obj.cells #[.int .i64 (U (x * 5)), .int .i64 (U (y * 5))] 48)
          have hL9 := hL8.below hE
          have hxx : ∀ j, j < 2 → (wr.alloc (Obj.cells #[.int .i64 (U (x * 5)), .int .i64 (U (y * 5))] 48)).cell? ⟨wr.heap.size, j, none⟩ = some (.int .i64 (ofL [U (x * 5), U (y * 5)] j)) := fun j hj => by
            rcases (show j = 0 ∨ j = 1 by omega) with rfl | rfl <;> (simp only [ofL]; go_simp; (try rfl))
          go_wp2_with (refine wpList_appx rfl _ _ _ rfl wk.heap.size 48 2 16 zcPr2 Try.underlying45 infoPr2 rfl (by decide) (.slice a4 m c4) m (ofL l) rfl hL9.own wr.heap.size (ofL [U (x * 5), U (y * 5)]) rfl hxx (by unfold maxLen; omega) (by omega) hL9.bel.size ?_; intro g7 c7 w7 ho7 hg7 hgg; have hL7 := hL9.push (x := [U (x * 5), U (y * 5)]) rfl hg7 ho7)
          go_roundw
          case rel => exact ⟨i + 1, _, _, _, by omega, by go_num, rfl, by unfold Shut; rw [hnx, List.length_append, hm.out]; rfl, by rw [hnx, bpV_app, hl]; exact hL7⟩
          case measure => simp [intOf]; omega
      · obtain rfl : J = i := by omega
        rw [← hJ', List.take_length] at hm hL8
        clear hJ' hLn
        obtain ⟨FF, hF0⟩ : ∃ l, (bpL n U n).filter (idN U id) = l := ⟨_, rfl⟩
        rw [hF0] at hm hL8
        have hF : Shut ((bpL n U n).filter (idN U id) = FF) := hF0
        have hM5 : m ≤ 576 := by
          have h1 := hm.out
          have h2 := List.length_filter_le (idN U id) (bpL n U n)
          have h3 := hJL.out
          rw [hF0] at h2
          omega
        clear hF0
        obtain ⟨M, rfl⟩ : ∃ x, x = m := ⟨_, rfl⟩
        have kb := hL8.bel
        have hT := hL8.own.base bel.size
        have hA := hA.on kb
        have hY := hY.on kb
        have hW := hW.on kb
        have hO := hO.below kb
        have hP := hP.below kb
        have hQ := hQ.below kb
        have hL := hL.below kb
        have bel := bel.trans (kb.mono bel.size)
        have hAc0 := hA.cell 0 rfl
        have hYc0 := hY.cell 0 rfl
        have hWc0 := hW.cell 0 rfl
        clear kb hL8
        go_upto_region 15 with fail
        go_cut [12, 13] (fun s0 s1 wc => ∃ (zb : Nat) (a5 : Option Addr) (c5 : Nat), s0 = .pointer (some ⟨zb, 0, none⟩) ∧ s1 = .bool false ∧ Below w.heap.size w wc ∧ Blk wc bb #[.slice a n c] 25 ∧ Blk wc yb #[.slice a1 N c1] 25 ∧ Blk wc wb #[.slice a2 N c2] 25 ∧ Blk wc zb #[.slice a5 N c5] 25 ∧ OwnL wc w.heap.size 31 5 (.slice a n c) n U ∧ OwnL wc w.heap.size 31 5 (.slice a1 N c1) N R ∧ OwnL wc w.heap.size 31 5 (.slice a2 N c2) N R ∧ OwnL wc w.heap.size 48 2 (.slice a3 J c3) J V ∧ OwnL wc w.heap.size 48 2 (.slice a4 M c4) M (ofL (bpV U FF)))
        case first =>
          go_wp2_with (go_at_call 15; refine (gone_any a1 N c1 R id k _ hP.flat hP.le (by omega) hG.out.isat N R false hG.out.again).mono ?_; rintro e w2 ⟨a5, c5, rfl, hOu⟩)
          go_meet
          have bz := hOu.bel.alloc hOu.bel.size (.cells #[.slice a5 N c5] 25)
          exact ⟨_, a5, c5, rfl, rfl, bel.trans (bz.mono bel.size), hA.on bz, hY.on bz, hW.on bz, Blk.new _ _ _, hO.below bz, hP.below bz, hQ.below bz, hL.below bz, hT.below bz⟩
        case rest =>
        clear bel hA hY hW hO hP hQ hL hT hAc0 hYc0 hWc0
        obtain ⟨zb, a5, c5, rfl, rfl, bel, hA, hY, hW, hZ, hO, hP, hQ, hL, hT⟩ := hcut
        have hAc0 := hA.cell 0 rfl
        have hYc0 := hY.cell 0 rfl
        have hWc0 := hW.cell 0 rfl
        have hZc0 := hZ.cell 0 rfl
        go_wp2_with (first
          | (have _ := hb2; go_at_call 21; refine (pqPairs_eq a7 a4 M _ _ (ofL (bpV U FF)) _ hO7.own.flat ((hT.below hb1).below hb2).flat (by omega)).mono ?_; rintro e w3 ⟨rfl, hb3⟩)
          | (have _ := hb1; go_at_call 20; refine (pairs_i a1 N c1 R M (ofL (bpV U FF)) _ (hP.below hb1).flat (by omega) (by rw [hG.out.len, hF.out]; exact hm.out) (by rw [hG.out.pairs, hF.out])).mono ?_; rintro e w2 ⟨a7, c7, rfl, hO7⟩; have hb2 := hO7.bel)
          | (go_at_call 13; refine (broadOk_q a1 N c1 R true _ hP.flat (by omega) hG.out.ok).mono ?_; rintro e w1 ⟨rfl, hb1⟩; have hYd := (hY.on hb1).cell 0 rfl))
        go_ret
        exact ⟨rfl, bel.trans ((hb1.trans ((hb2.trans (hb3.mono hb2.size)).mono hb1.size)).mono bel.size)⟩
end Go.Proofs.Ytbngdlbecdloiaa
