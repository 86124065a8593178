/- The draw of boxes. -/
import Derived.Test.YtbngdlbecdloiaaDrawBe
import Derived.Deep.RegionHeld3
import Derived.Deep.DeepCutAuto
set_option maxHeartbeats 16000000
set_option maxRecDepth 20000
namespace Go.Proofs.Ytbngdlbecdloiaa
open Go.RowKit
set_option linter.unusedVariables false
set_option linter.unusedSimpArgs false
set_option maxRecDepth 20000 in
set_option maxHeartbeats 8000000 in
theorem drawBroadPairs_k (ac : Option Addr) (len cap : Nat) (w : World) (hb : Bytes w ac len cap) :
    Calls Try.prog 22 #[.slice ac len cap] w fun e w' => ∃ (a : Option Addr) (n c : Nat) (U : Nat → Int), e = .returned (.agg #[.slice a n c]) ∧ n ≤ 25 ∧ Below w.heap.size w w' ∧ OwnL w' w.heap.size 31 5 (.slice a n c) n U := by
  have hset := cset_map
  have hE : Below w.heap.size w (w.alloc (.cells #[.slice none 0 0] 25)) := (Below.refl _ _).alloc (Nat.le_refl _) _
  have hb0 := hb.below ((Below.refl _ _).alloc (Nat.le_refl _) _ : Below w.heap.size w (w.alloc (.cells #[.slice none 0 0] 25)))
  have hz : (w.alloc (.cells #[.slice none 0 0] 25)).heap.size = w.heap.size + 1 := by simp
  have hA : Blk (w.alloc (.cells #[.slice none 0 0] 25)) w.heap.size #[.slice none 0 0] 25 := Blk.new w _ _
  go_enter Try.func22, Try.ntmps22
  go_upto_region 1 with fail
  generalize (w.alloc (.cells #[.slice none 0 0] 25)) = w0 at hE hb0 hz hA ⊢
  have hz1 : w.heap.size < w0.heap.size := by omega
  clear hz
  go_wp2_with (first
    | (have _ := hr0; go_at_call 34; refine (l11AnyBroad_k w0.heap.size 0 _ (by exact hr0.rs) (by omega)).mono ?_; rintro e w2 ⟨a, n, c, U, rfl, hn, hr1, hO⟩; have hA2 := (hA.on hb1).but (RB.but hr1) (by omega); have y0 := hA2.cell 0 rfl; have yf := hA2.f 0)
    | (go_at_call 33; refine (l1Open_rb _ _ _ _ hb0).mono ?_; rintro e w1 ⟨rfl, hr0, hb1⟩))
  have hlt1 : w0.heap.size < w1.heap.size := hr0.lt
  have hbel := hE.trans (hb1.mono hE.size)
  have hX : Below w.heap.size w w2 := hbel.trans (hr1.old (by omega) hbel.size)
  have hO3 := hO.stb (b := w.heap.size) (o := 0) (by intro e; have := (hO.lt _ e).1; have := hbel.size; omega) (.slice a n c)
  have q2 := hA2.put 0 (.slice a n c)
  have hX2 := hX.setCell (p := ⟨w.heap.size, 0, none⟩) (Nat.le_refl _) (.slice a n c)
  clear hA hA2 hO y0 yf
  generalize w2.setCell ⟨w.heap.size, 0, none⟩ (.slice a n c) = w9 at q2 hX2 hO3 ⊢
  have y0 := q2.cell 0 rfl
  exact bodyPost_ret (v := (.agg #[.slice a n c])) (by simp [results, Try.results22, go_sem, y0]) rfl (by first | exact ⟨a, n, c, U, rfl, hn, hX2, hO3.base (by omega)⟩ | exact ⟨a, n, c, rfl, U, hn, hX2, hO3.base (by omega)⟩ | exact ⟨a, n, c, rfl, hn, hX2, U, hO3.base (by omega)⟩)
end Go.Proofs.Ytbngdlbecdloiaa
