/- The draw of boxes, and a number. -/
import Derived.Test.YtbngdlbecdloiaaDrawBe
import Derived.Deep.RegionHeld3
import Derived.Deep.DeepCutAuto
set_option maxHeartbeats 16000000
set_option maxRecDepth 20000
namespace Go.Proofs.Ytbngdlbecdloiaa
open Go.RowKit
set_option linter.unusedVariables false
set_option linter.unusedSimpArgs false
set_option maxRecDepth 20000 in
set_option maxHeartbeats 8000000 in
theorem drawBroadGone_k (ac : Option Addr) (len cap : Nat) (w : World) (hb : Bytes w ac len cap) :
    Calls Try.prog 18 #[.slice ac len cap] w fun e w' => ∃ (a : Option Addr) (n c : Nat) (U : Nat → Int) (id : Int), e = .returned (.tuple #[.agg #[.slice a n c], .int .i64 id]) ∧ n ≤ 25 ∧ Below w.heap.size w w' ∧ OwnL w' w.heap.size 31 5 (.slice a n c) n U := by
  have hset := cset_map
  have hE : Below w.heap.size w (w.alloc (.cells #[.slice none 0 0] 25)) := (Below.refl _ _).alloc (Nat.le_refl _) _
  have hb0 := hb.below ((Below.refl _ _).alloc (Nat.le_refl _) _ : Below w.heap.size w (w.alloc (.cells #[.slice none 0 0] 25)))
  have hz : (w.alloc (.cells #[.slice none 0 0] 25)).heap.size = w.heap.size + 1 := by simp
  have hA : Blk (w.alloc (.cells #[.slice none 0 0] 25)) w.heap.size #[.slice none 0 0] 25 := Blk.new w _ _
  go_enter Try.func18, Try.ntmps18
  go_upto_region 1 with fail
  generalize (w.alloc (.cells #[.slice none 0 0] 25)) = w0 at hE hb0 hz hA ⊢
  go_cut [4] (fun s wc => ∃ rb : Nat, s = .pointer (some ⟨rb, 0, none⟩) ∧ w.heap.size + 1 ≤ rb ∧ RB wc wc rb 0 ∧ Below w.heap.size w wc ∧ Blk wc (w.heap.size) #[.slice none 0 0] 25)
  case first =>
    go_wp2_with (go_at_call 33; refine (l1Open_rb _ _ _ _ hb0).mono ?_; rintro e w1 ⟨rfl, hr1, hbel⟩)
    go_meet
    rw [hz] at hr1
    exact ⟨_, rfl, by omega, hr1, hE.trans (hbel.mono hE.size), hA.on hbel⟩
  case rest =>
  clear hE hb0 hz hA
  obtain ⟨rb, rfl, hlo, hF, hbel, hA⟩ := hcut
  have hlt := hF.lt
  go_wp2_with (first
    | (have _ := hr1; go_at_call 36; refine (pick_s rb 50000 _ _ (by exact hG.rs) (by omega) (by omega) (by omega)).mono ?_; rintro e w2 ⟨v2, rfl, va2, vb2, hr2⟩; replace hG := hG.trans hr2; replace hA := hA.but (RB.but hr2) (by omega); replace hO := hO.btb (RB.but hr2) hlb; have y0 := hA.cell 0 rfl; have yf := hA.f 0)
    | (go_at_call 34; refine (l11AnyBroad_k rb 0 _ (by exact hF.rs) (by omega)).mono ?_; rintro e w1 ⟨a, n, c, U, rfl, hn, hr1, hO⟩; have hG := hF.trans (hr1.mono (p' := 50000) (by omega)); replace hA := hA.but (RB.but hr1) (by omega); have hlb : rb < wc.heap.size := hlt))
  have hX : Below w.heap.size w w2 := hbel.trans (hG.old (by omega) hbel.size)
  have hO3 := hO.stb (b := w.heap.size) (o := 0) (by intro e; have := (hO.lt _ e).1; have := hbel.size; omega) (.slice a n c)
  have q2 := hA.put 0 (.slice a n c)
  have hX2 := hX.setCell (p := ⟨w.heap.size, 0, none⟩) (Nat.le_refl _) (.slice a n c)
  clear hA hO y0 yf
  generalize w2.setCell ⟨w.heap.size, 0, none⟩ (.slice a n c) = w9 at q2 hX2 hO3 ⊢
  have y0 := q2.cell 0 rfl
  exact bodyPost_ret (v := (.tuple #[.agg #[.slice a n c], .int .i64 v2])) (by simp [results, Try.results18, go_sem, y0]) rfl (by first | exact ⟨a, n, c, U, v2, rfl, hn, hX2, hO3.base (by omega)⟩ | exact ⟨a, n, c, rfl, U, hn, hX2, hO3.base (by omega)⟩ | exact ⟨a, n, c, v2, rfl, hn, U, hX2, hO3.base (by omega)⟩ | exact ⟨a, n, c, v2, rfl, hn, hX2, U, hO3.base (by omega)⟩ | exact ⟨a, n, c, v2, rfl, U, hn, hX2, hO3.base (by omega)⟩)
end Go.Proofs.Ytbngdlbecdloiaa
