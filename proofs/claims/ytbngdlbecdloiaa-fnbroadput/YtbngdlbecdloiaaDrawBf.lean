/- The draw of boxes, and one that is put. -/
import Derived.Test.YtbngdlbecdloiaaDrawBe
import Derived.Deep.RegionHeld3
import Derived.Deep.DeepCutAuto
set_option maxHeartbeats 16000000
set_option maxRecDepth 20000
namespace Go.Proofs.Ytbngdlbecdloiaa
open Go.RowKit
set_option linter.unusedVariables false
set_option linter.unusedSimpArgs false
set_option maxRecDepth 20000 in
set_option maxHeartbeats 8000000 in
theorem drawBroadPut_k (ac : Option Addr) (len cap : Nat) (w : World) (hb : Bytes w ac len cap) :
    Calls Try.prog 9 #[.slice ac len cap] w fun e w' => ∃ (a : Option Addr) (n c : Nat) (U X : Nat → Int), e = .returned (.tuple #[.agg #[.slice a n c], itemW X]) ∧ n ≤ 25 ∧ Below w.heap.size w w' ∧ OwnL w' w.heap.size 31 5 (.slice a n c) n U := by
  have hset := cset_map
  have hE : Below w.heap.size w ((w.alloc (.cells #[.slice none 0 0] 25)).alloc (.cells #[.int .i64 0, .int .i64 0, .int .i64 0, .int .i64 0, .int .i64 0] 31)) := ((Below.refl _ _).alloc (Nat.le_refl _) _).alloc (by simp) _
  have hb0 := hb.below (((Below.refl _ _).alloc (Nat.le_refl _) _).alloc (by simp) _ : Below w.heap.size w ((w.alloc (.cells #[.slice none 0 0] 25)).alloc (.cells #[.int .i64 0, .int .i64 0, .int .i64 0, .int .i64 0, .int .i64 0] 31)))
  have hz : ((w.alloc (.cells #[.slice none 0 0] 25)).alloc (.cells #[.int .i64 0, .int .i64 0, .int .i64 0, .int .i64 0, .int .i64 0] 31)).heap.size = w.heap.size + 2 := by simp
  have hA : Blk ((w.alloc (.cells #[.slice none 0 0] 25)).alloc (.cells #[.int .i64 0, .int .i64 0, .int .i64 0, .int .i64 0, .int .i64 0] 31)) w.heap.size #[.slice none 0 0] 25 := (Blk.new w _ _).al _
  have hB : Blk ((w.alloc (.cells #[.slice none 0 0] 25)).alloc (.cells #[.int .i64 0, .int .i64 0, .int .i64 0, .int .i64 0, .int .i64 0] 31)) (w.heap.size + 1) #[.int .i64 0, .int .i64 0, .int .i64 0, .int .i64 0, .int .i64 0] 31 := by have q := Blk.new (w.alloc (.cells #[.slice none 0 0] 25)) #[.int .i64 0, .int .i64 0, .int .i64 0, .int .i64 0, .int .i64 0] 31; simpa using q
  go_enter Try.func9, Try.ntmps9
  go_upto_region 1 with fail
  generalize ((w.alloc (.cells #[.slice none 0 0] 25)).alloc (.cells #[.int .i64 0, .int .i64 0, .int .i64 0, .int .i64 0, .int .i64 0] 31)) = w0 at hE hb0 hz hA hB ⊢
  go_cut [4] (fun s wc => ∃ rb : Nat, s = .pointer (some ⟨rb, 0, none⟩) ∧ w.heap.size + 2 ≤ rb ∧ RB wc wc rb 0 ∧ Below w.heap.size w wc ∧ Blk wc (w.heap.size) #[.slice none 0 0] 25 ∧ Blk wc (w.heap.size + 1) #[.int .i64 0, .int .i64 0, .int .i64 0, .int .i64 0, .int .i64 0] 31)
  case first =>
    go_wp2_with (go_at_call 33; refine (l1Open_rb _ _ _ _ hb0).mono ?_; rintro e w1 ⟨rfl, hr1, hbel⟩)
    go_meet
    rw [hz] at hr1
    exact ⟨_, rfl, by omega, hr1, hE.trans (hbel.mono hE.size), hA.on hbel, hB.on hbel⟩
  case rest =>
  clear hE hb0 hz hA hB
  obtain ⟨rb, rfl, hlo, hF, hbel, hA, hB⟩ := hcut
  have hlt := hF.lt

  go_wp2_with (first
    | (have _ := hr4; go_at_call 37; refine (l11AnyBox_s rb 50003 _ (by exact hG.rs) (by omega)).mono ?_; rintro e w5 ⟨x, y, u, v, rfl, hbx, hr5⟩; replace hG := hG.trans hr5; replace hA := hA.but (RB.but hr5) (by omega); replace hB := hB.but (RB.but hr5) (by omega); replace hO := hO.btb (RB.but hr5) hlb; have y0 := hA.cell 0 rfl; have yf := hA.f 0; have z0 := hB.cell 0 rfl; have z1 := hB.cell 1 rfl; have z2 := hB.cell 2 rfl; have z3 := hB.cell 3 rfl; have z4 := hB.cell 4 rfl; have zf := hB.f)
    | (have _ := hr3; go_at_call 35; refine (one_s (-1) 1000000000 rb 50002 _ _ _ _ _ (by exact hG.rs) (by omega) (by repeat (first | exact AllBd.nil | refine AllBd.cons (by omega) (by omega) ?_)) (by rfl) (by omega) (by omega)).mono ?_; rintro e w4 ⟨v4, rfl, va4, vb4, hr4⟩; replace hG := hG.trans hr4; replace hA := hA.but (RB.but hr4) (by omega); replace hB := hB.but (RB.but hr4) (by omega); replace hO := hO.btb (RB.but hr4) hlb)
    | (have _ := hr2; go_at_call 36; refine (pick_s rb 50001 _ _ (by exact hG.rs) (by omega) (by omega) (by omega)).mono ?_; rintro e w3 ⟨v3, rfl, va3, vb3, hr3⟩; replace hG := hG.trans hr3; replace hA := hA.but (RB.but hr3) (by omega); replace hB := hB.but (RB.but hr3) (by omega); replace hO := hO.btb (RB.but hr3) hlb)
    | (have _ := hr1; go_at_call 36; refine (pick_s rb 50000 _ _ (by exact hG.rs) (by omega) (by omega) (by omega)).mono ?_; rintro e w2 ⟨v2, rfl, va2, vb2, hr2⟩; replace hG := hG.trans hr2; replace hA := hA.but (RB.but hr2) (by omega); replace hB := hB.but (RB.but hr2) (by omega); replace hO := hO.btb (RB.but hr2) hlb)
    | (go_at_call 34; refine (l11AnyBroad_k rb 0 _ (by exact hF.rs) (by omega)).mono ?_; rintro e w1 ⟨a, n, c, U, rfl, hn, hr1, hO⟩; have hG := hF.trans (hr1.mono (p' := 50000) (by omega)); replace hA := hA.but (RB.but hr1) (by omega); replace hB := hB.but (RB.but hr1) (by omega); have hlb : rb < wc.heap.size := hlt))
  have hX : Below w.heap.size w w5 := hbel.trans (hG.old (by omega) hbel.size)
  have hO2 := ((((((hO.stb (b := w.heap.size) (o := 0) (by intro e; have := (hO.lt _ e).1; have := hbel.size; omega) (.slice a n c)))).base (B := w.heap.size + 2) (by omega))))
  have hO3 := (((((hO2.stb (b := w.heap.size + 1) (o := 0) (by intro e; have := (hO2.lt _ e).1; omega) (.int .i64 v4)).stb (b := w.heap.size + 1) (o := 1) (by intro e; have := (hO2.lt _ e).1; omega) (.int .i64 x)).stb (b := w.heap.size + 1) (o := 2) (by intro e; have := (hO2.lt _ e).1; omega) (.int .i64 y)).stb (b := w.heap.size + 1) (o := 3) (by intro e; have := (hO2.lt _ e).1; omega) (.int .i64 u)).stb (b := w.heap.size + 1) (o := 4) (by intro e; have := (hO2.lt _ e).1; omega) (.int .i64 v))
  have q1 := hA.put 0 (.slice a n c)
  have q2 := (((((q1.far (b' := w.heap.size + 1) (o := 0) (by omega) (.int .i64 v4)).far (b' := w.heap.size + 1) (o := 1) (by omega) (.int .i64 x)).far (b' := w.heap.size + 1) (o := 2) (by omega) (.int .i64 y)).far (b' := w.heap.size + 1) (o := 3) (by omega) (.int .i64 u)).far (b' := w.heap.size + 1) (o := 4) (by omega) (.int .i64 v))
  have r1 := hB.far (b' := w.heap.size) (o := 0) (by omega) (.slice a n c)
  have r2 := (((((r1.put 0 (.int .i64 v4)).put 1 (.int .i64 x)).put 2 (.int .i64 y)).put 3 (.int .i64 u)).put 4 (.int .i64 v))
  have hX2 := ((((((hX.setCell (p := ⟨w.heap.size, 0, none⟩) (Nat.le_refl _) (.slice a n c)).setCell (p := ⟨w.heap.size + 1, 0, none⟩) (by show _ ≤ w.heap.size + 1; omega) (.int .i64 v4)).setCell (p := ⟨w.heap.size + 1, 1, none⟩) (by show _ ≤ w.heap.size + 1; omega) (.int .i64 x)).setCell (p := ⟨w.heap.size + 1, 2, none⟩) (by show _ ≤ w.heap.size + 1; omega) (.int .i64 y)).setCell (p := ⟨w.heap.size + 1, 3, none⟩) (by show _ ≤ w.heap.size + 1; omega) (.int .i64 u)).setCell (p := ⟨w.heap.size + 1, 4, none⟩) (by show _ ≤ w.heap.size + 1; omega) (.int .i64 v))
  clear hO2 q1 r1 hA hB hO y0 yf z0 z1 z2 z3 z4 zf
  generalize ((((((w5.setCell ⟨w.heap.size, 0, none⟩ (.slice a n c)).setCell ⟨w.heap.size + 1, 0, none⟩ (.int .i64 v4)).setCell ⟨w.heap.size + 1, 1, none⟩ (.int .i64 x)).setCell ⟨w.heap.size + 1, 2, none⟩ (.int .i64 y)).setCell ⟨w.heap.size + 1, 3, none⟩ (.int .i64 u)).setCell ⟨w.heap.size + 1, 4, none⟩ (.int .i64 v)) = w9 at q2 r2 hX2 hO3 ⊢
  have y0 := q2.cell 0 rfl
  have z0 := r2.cell 0 rfl
  have z1 := r2.cell 1 rfl
  have z2 := r2.cell 2 rfl
  have z3 := r2.cell 3 rfl
  have z4 := r2.cell 4 rfl
  exact bodyPost_ret (v := .tuple #[.agg #[.slice a n c], .agg #[.int .i64 v4, .int .i64 x, .int .i64 y, .int .i64 u, .int .i64 v]]) (by simp [results, Try.results9, go_sem, y0, z0, z1, z2, z3, z4]) rfl ⟨a, n, c, U, (fun jj => [v4, x, y, u, v].getD jj 0), rfl, hn, hX2, hO3.base (by omega)⟩
end Go.Proofs.Ytbngdlbecdloiaa
