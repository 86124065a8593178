/- All bodies of some columns, as a list. The least deep of four sides, by the program. A contract of spans. How two round shapes, and two boxes, touch, by the program. How a box and something round touch, by the program. How something round and a box touch, by the program. A shape at a place, by the program. Which function tells how two kinds touch. How two shapes touch, by the program. How two shapes touch, by the program, whatever they are. How two bodies of some columns touch; all contacts, by the program. All contacts of some columns, by the program. Whether bodies are ok: both sides. All contacts, by the specification. -/
import Derived.Test.YtejminehbnebmaaGreatB4
import Derived.Test.YtejminehbnebmaaGreatB12
import Derived.Test.YtejminehbnebmaaGreatB10
import Derived.Deep.RegionHeld3
import Derived.Deep.DeepCutAuto
import Derived.LoopNIn
import Derived.LoopIn
import Derived.OwnWalkIn
import Derived.Test.YtejminehbnebmaaGreatB13
import Derived.Handy
import Derived.Test.YtejminehbnebmaaGreatB3
import Derived.Deep.QuietTactic
import Derived.BigQuiet
import Derived.Deep.RegionWith
import Derived.Laws.EntriesVeiled
import Derived.Test.YtejminehbnebmaaGreatB5
import Derived.Sort.CutIn
import Derived.Test.YtejminehbnebmaaGreatB11
namespace Go.Proofs.YtejminehbnebmaaGreat
open Go.RowKit
set_option linter.unusedVariables false
set_option linter.unusedSimpArgs false
/-- the rows of the first k bodies -/
def rwL (C : Nat → Nat → Int) : Nat → List Int
  | 0 => []
  | k + 1 => rwL C k ++ [C 0 k, C 1 k, C 2 k, C 3 k, C 4 k, C 5 k, C 6 k, C 7 k, C 8 k, C 9 k, C 10 k, C 11 k]
theorem rwL_len (C : Nat → Nat → Int) : ∀ k, (rwL C k).length = k * 12
  | 0 => rfl
  | k + 1 => by
    rw [rwL, List.length_append, rwL_len C k]
    simp only [List.length_cons, List.length_nil]
    omega
theorem rwL_at (C : Nat → Nat → Int) : ∀ n q, q < n * 12 → ofL (rwL C n) q = C (q % 12) (q / 12)
  | 0, q, h => by omega
  | k + 1, q, h => by
    rw [rwL]
    by_cases e : q < k * 12
    · rw [ofL_app _ _ _ (by rw [rwL_len]; exact e)]; exact rwL_at C k q e
    · rw [ofL_app' _ _ _ (by rw [rwL_len]; omega), rwL_len]
      have h1 : q / 12 = k := by omega
      have h2 : q % 12 = q - k * 12 := by omega
      rw [h1, h2]
      have h3 : q - k * 12 < 12 := by omega
      generalize q - k * 12 = j at h3 ⊢
      rcases (show j = 0 ∨ j = 1 ∨ j = 2 ∨ j = 3 ∨ j = 4 ∨ j = 5 ∨ j = 6 ∨ j = 7 ∨ j = 8 ∨ j = 9 ∨ j = 10 ∨ j = 11 by omega) with rfl | rfl | rfl | rfl | rfl | rfl | rfl | rfl | rfl | rfl | rfl | rfl <;> rfl
theorem cells12 (w : World) (V : Nat → Int) (t : TypeId) : ∀ j, j < 12 → (w.alloc (Obj.cells #[.int .i64 (V 0), .int .i64 (V 1), .int .i64 (V 2), .int .i64 (V 3), .int .i64 (V 4), .int .i64 (V 5), .int .i64 (V 6), .int .i64 (V 7), .int .i64 (V 8), .int .i64 (V 9), .int .i64 (V 10), .int .i64 (V 11)] t)).cell? ⟨w.heap.size, j, none⟩ = some (.int .i64 (ofL [V 0, V 1, V 2, V 3, V 4, V 5, V 6, V 7, V 8, V 9, V 10, V 11] j)) := by
  intro j hj
  rcases (show j = 0 ∨ j = 1 ∨ j = 2 ∨ j = 3 ∨ j = 4 ∨ j = 5 ∨ j = 6 ∨ j = 7 ∨ j = 8 ∨ j = 9 ∨ j = 10 ∨ j = 11 by omega) with rfl | rfl | rfl | rfl | rfl | rfl | rfl | rfl | rfl | rfl | rfl | rfl <;> (simp only [ofL]; go_simp; (try rfl))
set_option maxRecDepth 20000 in
set_option maxHeartbeats 8000000 in
theorem list_any (cb n : Nat) (C : Nat → Nat → Int) (S : Nat → Value) (w : World) (hC : Cs w cb n C S) (hn : n ≤ 12) :
    Calls Tryz.prog 22 #[.pointer (some ⟨cb, 0, none⟩)] w fun e w' => ∃ a c, e = .returned (.slice a n c) ∧ OutL w w' 43 12 a n c (fun q => C (q % 12) (q / 12)) := by
  have hset := cset_map
  refine calls_of_wp_marks Tryz.func22 rfl ?_
  simp only [Tryz.ntmps22, List.size_toArray, List.length_cons, List.length_nil, Nat.reduceAdd, Nat.reduceSub, Array.replicate_succ, Array.replicate_zero, List.push_toArray, List.append_toArray, List.nil_append, List.cons_append]
  go_wp2
  have hE : Below w.heap.size w (w.alloc (Obj.cells #[.slice none 0 0] 26)) := (Below.refl _ _).alloc (Nat.le_refl _) _
  have hC2 := hC.below hE
  have hA : LsAt (w.alloc (Obj.cells #[.slice none 0 0] 26)) (w.alloc (Obj.cells #[.slice none 0 0] 26)) w.heap.size 43 12 none 0 0 [] := LsAt.start (by go_simp) (by go_simp)
  have hz2 : (w.alloc (Obj.cells #[.slice none 0 0] 26)).heap.size = w.heap.size + 1 := by simp
  generalize (w.alloc (Obj.cells #[.slice none 0 0] 26)) = w2 at hE hC2 hA hz2 ⊢
  have hXl : ∀ b, Xc S b → b < w.heap.size := fun b hb => (hC.xlt hb).2
  have hcl0 := hC.lt
  have hlb : w.heap.size < w2.heap.size := by omega
  obtain ⟨ad, cc, hS0⟩ := (hC2.own 0 (by omega)).is
  have hd0 := hC2.hd 0 (by omega)
  rw [hS0] at hd0
  have hlw : w.heap.size ≤ w.heap.size := Nat.le_refl _
  have hcl1 : cb < w.heap.size := hcl0
  generalize hlbe : w.heap.size = lb at hA hlb hXl hcl1 hlw ⊢
  refine wp_range_out (gf := 37) (bound := #[.pointer (some ⟨cb, 0, none⟩)]) rfl each_enters (each_it cb n _ _ w2 hC2.lt hd0 (by omega)) (fun _ => rfl) (fun k W => ∃ a m c, LsAt w2 W lb 43 12 a m c (rwL C k)) (fun _ _ => False) ?_ (fun _ _ _ h _ => h) ⟨_, _, _, hA⟩ ?round ?done (fun _ _ _ _ h _ => h.elim)
  · rintro k A B ⟨a, m, c, h1⟩ hs
    exact ⟨a, m, c, h1.sm hs (Nat.le_refl _)⟩
  case done =>
    rintro D W hD ⟨a, m, c, hL⟩ hK
    have hbx := hL.box
    have hm : m = n := by have := hL.len; rw [rwL_len] at this; omega
    subst hm
    go_wp2
    refine marks_ret (B := w2.heap.size) hD rfl hK fun W' hS => ⟨.slice a m c, ?_, a, c, rfl, ?_, ?_⟩
    · simp [results, Tryz.results22, go_sem, *]
    · rw [hlbe]
      rw [hlbe] at hE
      exact (hE.trans (hL.fr.below (by omega) (fun b e => by omega))).trans (hS.below.mono (by omega))
    · rw [hlbe]
      exact ((hL.own.sm hS).base (by omega)).congr fun q hq => rwL_at C m q hq
  case round =>
    rintro l0 k X hl0 ⟨a, m, c, hL⟩ hk
    have hm12 : m ≤ 12 := by have := hL.len; rw [rwL_len] at this; omega
    simp only [List.zip_toArray, List.zip_cons_cons, List.zip_nil_left, List.foldl_toArray, List.foldl_cons, List.foldl_nil, List.setIfInBounds_toArray, List.set_cons_succ, List.set_cons_zero]
    refine wpIn_region_plain (by rintro ⟨_, _, h⟩; exact h) (by kernel_rfl) ?_
    go_wp2
    refine ⟨(KeepsOthers.alloc _ _).from _, fun X2 hS hr => ?_⟩
    clear hr
    have hL2 : LsAt w2 X2 lb 43 12 a m c (rwL C k) := (hL.below ((Below.refl _ _).alloc (Nat.le_refl _) _)).sm hS (Nat.le_refl _)
    have b0 : X2.cell? ⟨X.heap.size, 0, none⟩ = some (.int .i64 (k : Int)) := hS.cell (by go_simp)
    have b1 : X2.cell? ⟨X.heap.size, 1, none⟩ = some (.pointer (some ⟨cb, 0, none⟩)) := hS.cell (by go_simp)
    have hbl : X.heap.size < X2.heap.size := by have := hS.size; simp at this; omega
    have hown : ∀ b, (Value.slice a m c).ownBlock = some b → b < X.heap.size := fun b hb => (hL.own.lt b hb).2
    have hzX := hL.fr.size
    clear hS hL
    generalize X.heap.size = bb at b0 b1 hbl hown hzX ⊢
    have hCX := hC2.frame hL2.fr (by omega) (fun b hb => by have := hXl b hb; omega)
    have x0 := hL2.box
    have e0 := b0
    have e1 := b1
    refine wpIn_block ?_
    refine wpIn_region_held_drew (S := fun w' => w'.cell? ⟨bb, 0, none⟩ = some (.int .i64 (k : Int)) ∧ w'.cell? ⟨bb, 1, none⟩ = some (.pointer (some ⟨cb, 0, none⟩))) (by kernel_rfl) (by rintro ⟨_, _, h⟩; exact h) (by kernel_rfl) ?_ (fun hHeld => ?_)
    · (try dsimp only)
      (first | (go_simp; done) | (go_keep; done))
    refine tq 1 hHeld ?_
    refine wpAnyH_ready (rs := [0, 2]) (by kernel_rfl) (by simp) ?_
    refine AllReadyH.cons rfl (fun K hK => ?_) (AllReadyH.cons rfl (fun K hK => ?_) AllReadyH.nil)
    · (go_simp
       refine tr hK (fun hHeld => ?_)
       clear hK K)
      refine tc 2 fun K hK => ?_
      (go_simp
       (go_at_call 38; refine (kBody (Cs.hat (hCX.below (Below.drew (Below.refl _ _))) hk (by omega))).mono ?_; rintro e w31 ⟨rfl, hx⟩)
       have hx1 : Below X2.heap.size X2 w31 := (Below.drew (Below.refl _ _)).trans hx
       have hL3 := hL2.below hx1
       clear x0 e0 e1 hx
       have x0 := hL3.box
       have e0 := (hx1.cell (p := ⟨bb, 0, none⟩) hbl).trans b0
       have e1 := (hx1.cell (p := ⟨bb, 1, none⟩) hbl).trans b1
       have hbl3 : bb < w31.heap.size := Nat.lt_of_lt_of_le hbl hx1.size
       (try go_wp2_with fail)
       refine tr hK (fun hHeld => ?_)
       clear hK K)
      refine tc 3 fun K hK => ?_
      (go_simp
       have hE3 : Below w31.heap.size w31 (w31.alloc (Obj.cells #[.int .i64 (C 0 k), .int .i64 (C 1 k), .int .i64 (C 2 k), .int .i64 (C 3 k), .int .i64 (C 4 k), .int .i64 (C 5 k), .int .i64 (C 6 k), .int .i64 (C 7 k), .int .i64 (C 8 k), .int .i64 (C 9 k), .int .i64 (C 10 k), .int .i64 (C 11 k)] 43)) := (Below.refl _ _).alloc (Nat.le_refl _) _
       have q12 := cells12 w31 (fun j => C j k) 43
       have hz32 : (w31.alloc (Obj.cells #[.int .i64 (C 0 k), .int .i64 (C 1 k), .int .i64 (C 2 k), .int .i64 (C 3 k), .int .i64 (C 4 k), .int .i64 (C 5 k), .int .i64 (C 6 k), .int .i64 (C 7 k), .int .i64 (C 8 k), .int .i64 (C 9 k), .int .i64 (C 10 k), .int .i64 (C 11 k)] 43)).heap.size = w31.heap.size + 1 := by simp
       clear x0 e0 e1
       generalize w31.alloc (Obj.cells #[.int .i64 (C 0 k), .int .i64 (C 1 k), .int .i64 (C 2 k), .int .i64 (C 3 k), .int .i64 (C 4 k), .int .i64 (C 5 k), .int .i64 (C 6 k), .int .i64 (C 7 k), .int .i64 (C 8 k), .int .i64 (C 9 k), .int .i64 (C 10 k), .int .i64 (C 11 k)] 43) = w32 at hE3 q12 hz32 ⊢
       have hL4 := hL3.below hE3
       have x0 := hL4.box
       have e0 := (hE3.cell (p := ⟨bb, 0, none⟩) hbl3).trans ((hx1.cell (p := ⟨bb, 0, none⟩) hbl).trans b0)
       have e1 := (hE3.cell (p := ⟨bb, 1, none⟩) hbl3).trans ((hx1.cell (p := ⟨bb, 1, none⟩) hbl).trans b1)
       refine tr hK (fun hHeld => ?_)
       clear hK K)
      refine tc 4 fun K hK => ?_
      (refine step_appk (by rfl) _ _ _ (by rfl) w2.heap.size 43 12 96 zcBody Tryz.underlying26 infoItBody (by rfl) (by omega) (.slice a m c) m (ofL (rwL C k)) (by rfl) hL4.own w31.heap.size _ (ofL [C 0 k, C 1 k, C 2 k, C 3 k, C 4 k, C 5 k, C 6 k, C 7 k, C 8 k, C 9 k, C 10 k, C 11 k]) (by rfl) q12 (by unfold maxLen; omega) (by omega) (by have := hL4.fr.size; omega) _ rfl ?_
       intro g6 c6 w33 ho6 hg6 hor6 hlt6
       have hP := hL4.push hlb (x := [C 0 k, C 1 k, C 2 k, C 3 k, C 4 k, C 5 k, C 6 k, C 7 k, C 8 k, C 9 k, C 10 k, C 11 k]) rfl hg6 ho6
       have hKP := (Fr.of_below (hx1.trans (hE3.mono hx1.size))).trans (hL4.keeps (a' := some ⟨g6, 0, none⟩) (m' := m + 1) (c' := c6) hlb hg6)
       have hnb : ∀ b, (Value.slice a m c).ownBlock = some b → b ≠ bb := fun b e => by have := hown b e; omega
       have y0 := (hg6.cell_far ⟨bb, 0, none⟩ (by show bb < w32.heap.size; omega) (fun e => hnb bb e.symm rfl)).trans e0
       have y1 := (hg6.cell_far ⟨bb, 1, none⟩ (by show bb < w32.heap.size; omega) (fun e => hnb bb e.symm rfl)).trans e1
       have n0 := (hg6.cell_far ⟨lb, 0, none⟩ (by show lb < w32.heap.size; have := hL4.fr.size; omega) (fun e => by have := (hL4.own.lt lb e.symm).1; omega)).trans hL4.box
       have nf := (hg6.frozen_far ⟨lb, 0, none⟩ (by show lb < w32.heap.size; have := hL4.fr.size; omega) (fun e => by have := (hL4.own.lt lb e.symm).1; omega)).trans hL4.nf
       clear x0 e0 e1
       refine tr hK (fun hHeld => ?_)
       clear hK K)
      refine tc 5 fun K hK => ?_
      (have z0 : (w33.setCell ⟨lb, 0, none⟩ (.slice (some ⟨g6, 0, none⟩) (m + 1) c6)).cell? ⟨bb, 0, none⟩ = some (.int .i64 (k : Int)) := by rw [cset_far (by simp; omega)]; exact y0
       have z1 : (w33.setCell ⟨lb, 0, none⟩ (.slice (some ⟨g6, 0, none⟩) (m + 1) c6)).cell? ⟨bb, 1, none⟩ = some (.pointer (some ⟨cb, 0, none⟩)) := by rw [cset_far (by simp; omega)]; exact y1
       go_simp
       refine tr hK (fun hHeld => ?_)
       clear hK K)
      refine wpAnyH_done (by kernel_rfl) ?_ _
      go_wp2_with fail
      exact ⟨hKP.keeps _, _, _, _, by rw [rwL]; exact hP⟩
    · (go_simp
       (go_at_call 38; refine (kBody (Cs.hat (hCX.below (Below.drew (Below.refl _ _))) hk (by omega))).mono ?_; rintro e w31 ⟨rfl, hx⟩)
       have hx1 : Below X2.heap.size X2 w31 := (Below.drew (Below.refl _ _)).trans hx
       have hL3 := hL2.below hx1
       clear x0 e0 e1 hx
       have x0 := hL3.box
       have e0 := (hx1.cell (p := ⟨bb, 0, none⟩) hbl).trans b0
       have e1 := (hx1.cell (p := ⟨bb, 1, none⟩) hbl).trans b1
       have hbl3 : bb < w31.heap.size := Nat.lt_of_lt_of_le hbl hx1.size
       (try go_wp2_with fail)
       refine tr hK (fun hHeld => ?_)
       clear hK K)
      refine wpAnyH_ready (rs := [0, 3]) (by kernel_rfl) (by simp) ?_
      refine AllReadyH.cons rfl (fun K hK => ?_) (AllReadyH.cons rfl (fun K hK => ?_) AllReadyH.nil)
      · (go_simp
         refine tr hK (fun hHeld => ?_)
         clear hK K)
        refine tc 3 fun K hK => ?_
        (go_simp
         have hE3 : Below w31.heap.size w31 (w31.alloc (Obj.cells #[.int .i64 (C 0 k), .int .i64 (C 1 k), .int .i64 (C 2 k), .int .i64 (C 3 k), .int .i64 (C 4 k), .int .i64 (C 5 k), .int .i64 (C 6 k), .int .i64 (C 7 k), .int .i64 (C 8 k), .int .i64 (C 9 k), .int .i64 (C 10 k), .int .i64 (C 11 k)] 43)) := (Below.refl _ _).alloc (Nat.le_refl _) _
         have q12 := cells12 w31 (fun j => C j k) 43
         have hz32 : (w31.alloc (Obj.cells #[.int .i64 (C 0 k), .int .i64 (C 1 k), .int .i64 (C 2 k), .int .i64 (C 3 k), .int .i64 (C 4 k), .int .i64 (C 5 k), .int .i64 (C 6 k), .int .i64 (C 7 k), .int .i64 (C 8 k), .int .i64 (C 9 k), .int .i64 (C 10 k), .int .i64 (C 11 k)] 43)).heap.size = w31.heap.size + 1 := by simp
         clear x0 e0 e1
         generalize w31.alloc (Obj.cells #[.int .i64 (C 0 k), .int .i64 (C 1 k), .int .i64 (C 2 k), .int .i64 (C 3 k), .int .i64 (C 4 k), .int .i64 (C 5 k), .int .i64 (C 6 k), .int .i64 (C 7 k), .int .i64 (C 8 k), .int .i64 (C 9 k), .int .i64 (C 10 k), .int .i64 (C 11 k)] 43) = w32 at hE3 q12 hz32 ⊢
         have hL4 := hL3.below hE3
         have x0 := hL4.box
         have e0 := (hE3.cell (p := ⟨bb, 0, none⟩) hbl3).trans ((hx1.cell (p := ⟨bb, 0, none⟩) hbl).trans b0)
         have e1 := (hE3.cell (p := ⟨bb, 1, none⟩) hbl3).trans ((hx1.cell (p := ⟨bb, 1, none⟩) hbl).trans b1)
         refine tr hK (fun hHeld => ?_)
         clear hK K)
        refine tc 4 fun K hK => ?_
        (refine step_appk (by rfl) _ _ _ (by rfl) w2.heap.size 43 12 96 zcBody Tryz.underlying26 infoItBody (by rfl) (by omega) (.slice a m c) m (ofL (rwL C k)) (by rfl) hL4.own w31.heap.size _ (ofL [C 0 k, C 1 k, C 2 k, C 3 k, C 4 k, C 5 k, C 6 k, C 7 k, C 8 k, C 9 k, C 10 k, C 11 k]) (by rfl) q12 (by unfold maxLen; omega) (by omega) (by have := hL4.fr.size; omega) _ rfl ?_
         intro g6 c6 w33 ho6 hg6 hor6 hlt6
         have hP := hL4.push hlb (x := [C 0 k, C 1 k, C 2 k, C 3 k, C 4 k, C 5 k, C 6 k, C 7 k, C 8 k, C 9 k, C 10 k, C 11 k]) rfl hg6 ho6
         have hKP := (Fr.of_below (hx1.trans (hE3.mono hx1.size))).trans (hL4.keeps (a' := some ⟨g6, 0, none⟩) (m' := m + 1) (c' := c6) hlb hg6)
         have hnb : ∀ b, (Value.slice a m c).ownBlock = some b → b ≠ bb := fun b e => by have := hown b e; omega
         have y0 := (hg6.cell_far ⟨bb, 0, none⟩ (by show bb < w32.heap.size; omega) (fun e => hnb bb e.symm rfl)).trans e0
         have y1 := (hg6.cell_far ⟨bb, 1, none⟩ (by show bb < w32.heap.size; omega) (fun e => hnb bb e.symm rfl)).trans e1
         have n0 := (hg6.cell_far ⟨lb, 0, none⟩ (by show lb < w32.heap.size; have := hL4.fr.size; omega) (fun e => by have := (hL4.own.lt lb e.symm).1; omega)).trans hL4.box
         have nf := (hg6.frozen_far ⟨lb, 0, none⟩ (by show lb < w32.heap.size; have := hL4.fr.size; omega) (fun e => by have := (hL4.own.lt lb e.symm).1; omega)).trans hL4.nf
         clear x0 e0 e1
         refine tr hK (fun hHeld => ?_)
         clear hK K)
        refine tc 5 fun K hK => ?_
        (have z0 : (w33.setCell ⟨lb, 0, none⟩ (.slice (some ⟨g6, 0, none⟩) (m + 1) c6)).cell? ⟨bb, 0, none⟩ = some (.int .i64 (k : Int)) := by rw [cset_far (by simp; omega)]; exact y0
         have z1 : (w33.setCell ⟨lb, 0, none⟩ (.slice (some ⟨g6, 0, none⟩) (m + 1) c6)).cell? ⟨bb, 1, none⟩ = some (.pointer (some ⟨cb, 0, none⟩)) := by rw [cset_far (by simp; omega)]; exact y1
         go_simp
         refine tr hK (fun hHeld => ?_)
         clear hK K)
        refine wpAnyH_done (by kernel_rfl) ?_ _
        go_wp2_with fail
        exact ⟨hKP.keeps _, _, _, _, by rw [rwL]; exact hP⟩
      · (go_simp
         have hE3 : Below w31.heap.size w31 (w31.alloc (Obj.cells #[.int .i64 (C 0 k), .int .i64 (C 1 k), .int .i64 (C 2 k), .int .i64 (C 3 k), .int .i64 (C 4 k), .int .i64 (C 5 k), .int .i64 (C 6 k), .int .i64 (C 7 k), .int .i64 (C 8 k), .int .i64 (C 9 k), .int .i64 (C 10 k), .int .i64 (C 11 k)] 43)) := (Below.refl _ _).alloc (Nat.le_refl _) _
         have q12 := cells12 w31 (fun j => C j k) 43
         have hz32 : (w31.alloc (Obj.cells #[.int .i64 (C 0 k), .int .i64 (C 1 k), .int .i64 (C 2 k), .int .i64 (C 3 k), .int .i64 (C 4 k), .int .i64 (C 5 k), .int .i64 (C 6 k), .int .i64 (C 7 k), .int .i64 (C 8 k), .int .i64 (C 9 k), .int .i64 (C 10 k), .int .i64 (C 11 k)] 43)).heap.size = w31.heap.size + 1 := by simp
         clear x0 e0 e1
         generalize w31.alloc (Obj.cells #[.int .i64 (C 0 k), .int .i64 (C 1 k), .int .i64 (C 2 k), .int .i64 (C 3 k), .int .i64 (C 4 k), .int .i64 (C 5 k), .int .i64 (C 6 k), .int .i64 (C 7 k), .int .i64 (C 8 k), .int .i64 (C 9 k), .int .i64 (C 10 k), .int .i64 (C 11 k)] 43) = w32 at hE3 q12 hz32 ⊢
         have hL4 := hL3.below hE3
         have x0 := hL4.box
         have e0 := (hE3.cell (p := ⟨bb, 0, none⟩) hbl3).trans ((hx1.cell (p := ⟨bb, 0, none⟩) hbl).trans b0)
         have e1 := (hE3.cell (p := ⟨bb, 1, none⟩) hbl3).trans ((hx1.cell (p := ⟨bb, 1, none⟩) hbl).trans b1)
         refine tr hK (fun hHeld => ?_)
         clear hK K)
        refine tc 0 fun K hK => ?_
        (go_simp
         refine tr hK (fun hHeld => ?_)
         clear hK K)
        refine tc 4 fun K hK => ?_
        (refine step_appk (by rfl) _ _ _ (by rfl) w2.heap.size 43 12 96 zcBody Tryz.underlying26 infoItBody (by rfl) (by omega) (.slice a m c) m (ofL (rwL C k)) (by rfl) hL4.own w31.heap.size _ (ofL [C 0 k, C 1 k, C 2 k, C 3 k, C 4 k, C 5 k, C 6 k, C 7 k, C 8 k, C 9 k, C 10 k, C 11 k]) (by rfl) q12 (by unfold maxLen; omega) (by omega) (by have := hL4.fr.size; omega) _ rfl ?_
         intro g6 c6 w33 ho6 hg6 hor6 hlt6
         have hP := hL4.push hlb (x := [C 0 k, C 1 k, C 2 k, C 3 k, C 4 k, C 5 k, C 6 k, C 7 k, C 8 k, C 9 k, C 10 k, C 11 k]) rfl hg6 ho6
         have hKP := (Fr.of_below (hx1.trans (hE3.mono hx1.size))).trans (hL4.keeps (a' := some ⟨g6, 0, none⟩) (m' := m + 1) (c' := c6) hlb hg6)
         have hnb : ∀ b, (Value.slice a m c).ownBlock = some b → b ≠ bb := fun b e => by have := hown b e; omega
         have y0 := (hg6.cell_far ⟨bb, 0, none⟩ (by show bb < w32.heap.size; omega) (fun e => hnb bb e.symm rfl)).trans e0
         have y1 := (hg6.cell_far ⟨bb, 1, none⟩ (by show bb < w32.heap.size; omega) (fun e => hnb bb e.symm rfl)).trans e1
         have n0 := (hg6.cell_far ⟨lb, 0, none⟩ (by show lb < w32.heap.size; have := hL4.fr.size; omega) (fun e => by have := (hL4.own.lt lb e.symm).1; omega)).trans hL4.box
         have nf := (hg6.frozen_far ⟨lb, 0, none⟩ (by show lb < w32.heap.size; have := hL4.fr.size; omega) (fun e => by have := (hL4.own.lt lb e.symm).1; omega)).trans hL4.nf
         clear x0 e0 e1
         refine tr hK (fun hHeld => ?_)
         clear hK K)
        refine tc 5 fun K hK => ?_
        (have z0 : (w33.setCell ⟨lb, 0, none⟩ (.slice (some ⟨g6, 0, none⟩) (m + 1) c6)).cell? ⟨bb, 0, none⟩ = some (.int .i64 (k : Int)) := by rw [cset_far (by simp; omega)]; exact y0
         have z1 : (w33.setCell ⟨lb, 0, none⟩ (.slice (some ⟨g6, 0, none⟩) (m + 1) c6)).cell? ⟨bb, 1, none⟩ = some (.pointer (some ⟨cb, 0, none⟩)) := by rw [cset_far (by simp; omega)]; exact y1
         go_simp
         refine tr hK (fun hHeld => ?_)
         clear hK K)
        refine wpAnyH_done (by kernel_rfl) ?_ _
        go_wp2_with fail
        exact ⟨hKP.keeps _, _, _, _, by rw [rwL]; exact hP⟩
end Go.Proofs.YtejminehbnebmaaGreat
namespace Go.Proofs.YtejminehbnebmaaGreat
open Go.RowKit
set_option linter.unusedVariables false
set_option linter.unusedSimpArgs false

end Go.Proofs.YtejminehbnebmaaGreat
namespace Go.Proofs.YtejminehbnebmaaGreat
open Go.RowKit
set_option linter.unusedVariables false
set_option linter.unusedSimpArgs false

end Go.Proofs.YtejminehbnebmaaGreat
namespace Go.Proofs.YtejminehbnebmaaGreat
open Go.RowKit
set_option linter.unusedVariables false
set_option linter.unusedSimpArgs false

end Go.Proofs.YtejminehbnebmaaGreat
namespace Go.Proofs.YtejminehbnebmaaGreat
open Go.RowKit
set_option linter.unusedVariables false
set_option linter.unusedSimpArgs false

end Go.Proofs.YtejminehbnebmaaGreat
namespace Go.Proofs.YtejminehbnebmaaGreat
open Go.RowKit
set_option linter.unusedVariables false
set_option linter.unusedSimpArgs false

theorem mxT_no {a b c d x y g P Q E : Int} (e : mxT a b c d x y g = ((P, Q, E), false)) : P = 0 ∧ Q = 0 ∧ E = 0 := by
  unfold mxT at e
  split at e
  · simp only [Prod.mk.injEq] at e; exact absurd e.2 (by decide)
  · unfold rdT at e
    split at e
    · simp only [Prod.mk.injEq] at e; exact absurd e.2 (by decide)
    · simp only [Prod.mk.injEq] at e; omega
end Go.Proofs.YtejminehbnebmaaGreat
namespace Go.Proofs.YtejminehbnebmaaGreat
open Go.RowKit
set_option linter.unusedVariables false
set_option linter.unusedSimpArgs false

end Go.Proofs.YtejminehbnebmaaGreat
namespace Go.Proofs.YtejminehbnebmaaGreat
open Go.RowKit
set_option linter.unusedVariables false
set_option linter.unusedSimpArgs false

end Go.Proofs.YtejminehbnebmaaGreat
namespace Go.Proofs.YtejminehbnebmaaGreat
open Go.RowKit
set_option linter.unusedVariables false
set_option linter.unusedSimpArgs false

def plZ (k g h x y : Int) : Bool := shB k g h && inB 2560000 x y
end Go.Proofs.YtejminehbnebmaaGreat
namespace Go.Proofs.YtejminehbnebmaaGreat
open Go.RowKit
set_option linter.unusedVariables false
set_option linter.unusedSimpArgs false

end Go.Proofs.YtejminehbnebmaaGreat
namespace Go.Proofs.YtejminehbnebmaaGreat
open Go.RowKit
set_option linter.unusedVariables false
set_option linter.unusedSimpArgs false

end Go.Proofs.YtejminehbnebmaaGreat
namespace Go.Proofs.YtejminehbnebmaaGreat
open Go.RowKit
set_option linter.unusedVariables false
set_option linter.unusedSimpArgs false

theorem cells5 (w : World) (p q r s u : Int) (t : TypeId) : ∀ j, j < 5 → (w.alloc (Obj.cells #[.int .i64 p, .int .i64 q, .int .i64 r, .int .i64 s, .int .i64 u] t)).cell? ⟨w.heap.size, j, none⟩ = some (.int .i64 (ofL [p, q, r, s, u] j)) := by
  intro j hj
  rcases (show j = 0 ∨ j = 1 ∨ j = 2 ∨ j = 3 ∨ j = 4 by omega) with rfl | rfl | rfl | rfl | rfl <;> (simp only [ofL]; go_simp; (try rfl))
theorem kFixed_q {cb n k : Nat} {V : Nat → Int} {G : Nat → Nat} {w : World} (h : HAt w cb n k V G) {b : Bool} (e : decide (V 8 = 0) = b) :
    Calls Tryz.prog 85 #[hdk cb k] w fun e w' => e = .returned (.bool b) ∧ Below w.heap.size w w' := by subst e; exact kFixed h
end Go.Proofs.YtejminehbnebmaaGreat
namespace Go.Proofs.YtejminehbnebmaaGreat
open Go.RowKit
set_option linter.unusedVariables false
set_option linter.unusedSimpArgs false

set_option maxRecDepth 20000 in
set_option maxHeartbeats 4000000 in
theorem sBodiesOk_any (a : Option Addr) (n c : Nat) (U : Nat → Int) (w : World) (h : Flat w a (n * 12) U) (hn : n ≤ 1048576) :
    Calls Tryz.prog 15 #[.slice a n c] w fun e w' => e = .returned (.bool (bodsB n U)) ∧ Below w.heap.size w w' := by
  have hset := cset_map
  go_enter Tryz.func15, Tryz.ntmps15
  go_wp2
  go_loopw [3] (fun i wr => ∃ k : Nat, k ≤ n ∧ i = .int .i64 (k : Int) ∧ Below w.heap.size w wr ∧ allBB U k = true) (fun i _ => n - (intOf i).toNat)
  case atStart => exact ⟨0, Nat.zero_le _, rfl, Below.refl _ _, rfl⟩
  case round =>
      obtain ⟨k, hk, rfl, hB, hall0⟩ := hrel
      have hall : Shut (allBB U k = true) := hall0
      clear hall0
      by_cases hlt : k < n
      · have hkn : (k : Int) < (n : Int) := by omega
        obtain ⟨b, o, rfl, hbl, hc⟩ := (h.below hB) (by omega)
        have c0 := hc (k * 12) (by omega)
        have c1 := hc (k * 12 + 1) (by omega)
        have c2 := hc (k * 12 + 2) (by omega)
        have c3 := hc (k * 12 + 3) (by omega)
        have c4 := hc (k * 12 + 4) (by omega)
        have c5 := hc (k * 12 + 5) (by omega)
        have c6 := hc (k * 12 + 6) (by omega)
        have c7 := hc (k * 12 + 7) (by omega)
        have c8 := hc (k * 12 + 8) (by omega)
        have c9 := hc (k * 12 + 9) (by omega)
        have c10 := hc (k * 12 + 10) (by omega)
        have c11 := hc (k * 12 + 11) (by omega)
        simp only [← Nat.add_assoc] at c0 c1 c2 c3 c4 c5 c6 c7 c8 c9 c10 c11
        go_upto_region 4 with fail
        cases hi : bodyB (fun j => U (k * 12 + j)) with
        | false =>
          have hno : Shut (stepBB U k = false) := by show stepBB U k = false; rw [stepBB, hi]; rfl
          clear hc
          refine wp_region_held_drew (S := fun w' => w'.cell? ⟨b, o + k * 12, none⟩ = some (.int .i64 (U (k * 12))) ∧ w'.cell? ⟨b, o + k * 12 + 1, none⟩ = some (.int .i64 (U (k * 12 + 1))) ∧ w'.cell? ⟨b, o + k * 12 + 2, none⟩ = some (.int .i64 (U (k * 12 + 2))) ∧ w'.cell? ⟨b, o + k * 12 + 3, none⟩ = some (.int .i64 (U (k * 12 + 3))) ∧ w'.cell? ⟨b, o + k * 12 + 4, none⟩ = some (.int .i64 (U (k * 12 + 4))) ∧ w'.cell? ⟨b, o + k * 12 + 5, none⟩ = some (.int .i64 (U (k * 12 + 5))) ∧ w'.cell? ⟨b, o + k * 12 + 6, none⟩ = some (.int .i64 (U (k * 12 + 6))) ∧ w'.cell? ⟨b, o + k * 12 + 7, none⟩ = some (.int .i64 (U (k * 12 + 7))) ∧ w'.cell? ⟨b, o + k * 12 + 8, none⟩ = some (.int .i64 (U (k * 12 + 8))) ∧ w'.cell? ⟨b, o + k * 12 + 9, none⟩ = some (.int .i64 (U (k * 12 + 9))) ∧ w'.cell? ⟨b, o + k * 12 + 10, none⟩ = some (.int .i64 (U (k * 12 + 10))) ∧ w'.cell? ⟨b, o + k * 12 + 11, none⟩ = some (.int .i64 (U (k * 12 + 11)))) (by kernel_rfl) ?_ (fun hHeld => ?_)
          · (try dsimp only)
            (first | (go_simp; done) | (go_keep; done))
          refine tq 0 hHeld ?_
          refine tq 1 hHeld ?_
          refine tq 2 hHeld ?_
          refine tq 3 hHeld ?_
          (refine tc 4 fun K hK => ?_; go_simp; (go_at_call 25; refine (sBodyOk_q (fun j => U (k * 12 + j)) _ _ (by exact hi)).mono ?_; rintro e w2 ⟨rfl, hb2⟩; obtain ⟨hc2, hf2⟩ := bcell hb2; have hz2 := hb2.size; (try simp only [World.size_drew, World.size_alloc, World.size_setCell] at hc2 hf2 hz2); have hk3 := fun o => hc2 b o (by omega); clear hc2 hf2); (try go_wp2_with fail); refine tr hK (fun hHeld => ?_); clear hK K)
          refine tq 5 hHeld ?_
          refine tq 6 hHeld ?_
          refine tn 7 hHeld ?_
          refine tn 8 hHeld ?_
          refine tn 9 hHeld ?_
          refine tn 10 hHeld ?_
          refine tn 11 hHeld ?_
          refine tn 12 hHeld ?_
          refine tn 13 hHeld ?_
          refine tn 14 hHeld ?_
          refine tn 15 hHeld ?_
          refine tn 16 hHeld ?_
          refine tn 17 hHeld ?_
          refine tn 18 hHeld ?_
          refine tn 19 hHeld ?_
          refine tn 20 hHeld ?_
          refine tn 21 hHeld ?_
          refine tn 22 hHeld ?_
          refine tq 23 hHeld ?_
          refine wpAnyH_done (by kernel_rfl) ?_ _
          go_wp2_with fail
          go_ret
          exact ⟨by rw [bodsB, allBB_no hno.out n hlt, Bool.and_false]; rfl, hB.trans (hb2.ofDr.mono hB.size)⟩
        | true =>
          by_cases hk0 : 0 < k
          · have hd0 : decide (0 < k) = true := decide_eq_true hk0
            obtain ⟨j, hj⟩ : ∃ j, j + 1 = k := ⟨k - 1, by omega⟩
            have hj' : (k : Int) - 1 = (j : Int) := by omega
            have hjn : j < n := by omega
            have hwj : IntKind.i64.wrap (j : Int) = (j : Int) := i64w (by omega)
            have HJ : Shut (j + 1 = k) := hj
            clear hj
            have p0 := hc (j * 12) (by omega)
            clear hc
            by_cases hge : U (j * 12) < U (k * 12)
            · have hdg : decide (U (k * 12) ≤ U (j * 12)) = false := decide_eq_false (by omega)
              have hyes : Shut (stepBB U k = true) := by show stepBB U k = true; rw [stepBB, hi, show k - 1 = j from by have := HJ.out; omega]; simp [hge]
              refine wp_region_held_drew (S := fun w' => w'.cell? ⟨b, o + k * 12, none⟩ = some (.int .i64 (U (k * 12))) ∧ w'.cell? ⟨b, o + k * 12 + 1, none⟩ = some (.int .i64 (U (k * 12 + 1))) ∧ w'.cell? ⟨b, o + k * 12 + 2, none⟩ = some (.int .i64 (U (k * 12 + 2))) ∧ w'.cell? ⟨b, o + k * 12 + 3, none⟩ = some (.int .i64 (U (k * 12 + 3))) ∧ w'.cell? ⟨b, o + k * 12 + 4, none⟩ = some (.int .i64 (U (k * 12 + 4))) ∧ w'.cell? ⟨b, o + k * 12 + 5, none⟩ = some (.int .i64 (U (k * 12 + 5))) ∧ w'.cell? ⟨b, o + k * 12 + 6, none⟩ = some (.int .i64 (U (k * 12 + 6))) ∧ w'.cell? ⟨b, o + k * 12 + 7, none⟩ = some (.int .i64 (U (k * 12 + 7))) ∧ w'.cell? ⟨b, o + k * 12 + 8, none⟩ = some (.int .i64 (U (k * 12 + 8))) ∧ w'.cell? ⟨b, o + k * 12 + 9, none⟩ = some (.int .i64 (U (k * 12 + 9))) ∧ w'.cell? ⟨b, o + k * 12 + 10, none⟩ = some (.int .i64 (U (k * 12 + 10))) ∧ w'.cell? ⟨b, o + k * 12 + 11, none⟩ = some (.int .i64 (U (k * 12 + 11))) ∧ w'.cell? ⟨b, o + j * 12, none⟩ = some (.int .i64 (U (j * 12)))) (by kernel_rfl) ?_ (fun hHeld => ?_)
              · (try dsimp only)
                (first | (go_simp; done) | (go_keep; done))
              refine tq 0 hHeld ?_
              refine tq 1 hHeld ?_
              refine tq 2 hHeld ?_
              refine tq 3 hHeld ?_
              (refine tc 4 fun K hK => ?_; go_simp; (go_at_call 25; refine (sBodyOk_q (fun j => U (k * 12 + j)) _ _ (by exact hi)).mono ?_; rintro e w2 ⟨rfl, hb2⟩; obtain ⟨hc2, hf2⟩ := bcell hb2; have hz2 := hb2.size; (try simp only [World.size_drew, World.size_alloc, World.size_setCell] at hc2 hf2 hz2); have hk3 := fun o => hc2 b o (by omega); clear hc2 hf2); (try go_wp2_with fail); refine tr hK (fun hHeld => ?_); clear hK K)
              refine tq 5 hHeld ?_
              refine tq 6 hHeld ?_
              refine tq 7 hHeld ?_
              refine tq 8 hHeld ?_
              refine tq 9 hHeld ?_
              refine tq 10 hHeld ?_
              refine tq 11 hHeld ?_
              refine tq 12 hHeld ?_
              refine tq 13 hHeld ?_
              refine tq 14 hHeld ?_
              refine tq 15 hHeld ?_
              refine tq 16 hHeld ?_
              refine tq 17 hHeld ?_
              refine tq 18 hHeld ?_
              refine tq 19 hHeld ?_
              refine tq 20 hHeld ?_
              refine tq 21 hHeld ?_
              refine tq 22 hHeld ?_
              refine tq 23 hHeld ?_
              refine wpAnyH_done (by kernel_rfl) ?_ _
              go_wp2_with fail
              go_roundw
              case rel => exact ⟨k + 1, by omega, by go_num, hB.trans (hb2.ofDr.mono hB.size), by rw [allBB, hall.out, hyes.out]; rfl⟩
              case measure => simp [intOf]; omega
            · have hdg : decide (U (k * 12) ≤ U (j * 12)) = true := decide_eq_true (by omega)
              have hno : Shut (stepBB U k = false) := by show stepBB U k = false; rw [stepBB, show k - 1 = j from by have := HJ.out; omega]; have := HJ.out; simp [hge]; omega
              refine wp_region_held_drew (S := fun w' => w'.cell? ⟨b, o + k * 12, none⟩ = some (.int .i64 (U (k * 12))) ∧ w'.cell? ⟨b, o + k * 12 + 1, none⟩ = some (.int .i64 (U (k * 12 + 1))) ∧ w'.cell? ⟨b, o + k * 12 + 2, none⟩ = some (.int .i64 (U (k * 12 + 2))) ∧ w'.cell? ⟨b, o + k * 12 + 3, none⟩ = some (.int .i64 (U (k * 12 + 3))) ∧ w'.cell? ⟨b, o + k * 12 + 4, none⟩ = some (.int .i64 (U (k * 12 + 4))) ∧ w'.cell? ⟨b, o + k * 12 + 5, none⟩ = some (.int .i64 (U (k * 12 + 5))) ∧ w'.cell? ⟨b, o + k * 12 + 6, none⟩ = some (.int .i64 (U (k * 12 + 6))) ∧ w'.cell? ⟨b, o + k * 12 + 7, none⟩ = some (.int .i64 (U (k * 12 + 7))) ∧ w'.cell? ⟨b, o + k * 12 + 8, none⟩ = some (.int .i64 (U (k * 12 + 8))) ∧ w'.cell? ⟨b, o + k * 12 + 9, none⟩ = some (.int .i64 (U (k * 12 + 9))) ∧ w'.cell? ⟨b, o + k * 12 + 10, none⟩ = some (.int .i64 (U (k * 12 + 10))) ∧ w'.cell? ⟨b, o + k * 12 + 11, none⟩ = some (.int .i64 (U (k * 12 + 11))) ∧ w'.cell? ⟨b, o + j * 12, none⟩ = some (.int .i64 (U (j * 12)))) (by kernel_rfl) ?_ (fun hHeld => ?_)
              · (try dsimp only)
                (first | (go_simp; done) | (go_keep; done))
              refine tq 0 hHeld ?_
              refine tq 1 hHeld ?_
              refine tq 2 hHeld ?_
              refine tq 3 hHeld ?_
              (refine tc 4 fun K hK => ?_; go_simp; (go_at_call 25; refine (sBodyOk_q (fun j => U (k * 12 + j)) _ _ (by exact hi)).mono ?_; rintro e w2 ⟨rfl, hb2⟩; obtain ⟨hc2, hf2⟩ := bcell hb2; have hz2 := hb2.size; (try simp only [World.size_drew, World.size_alloc, World.size_setCell] at hc2 hf2 hz2); have hk3 := fun o => hc2 b o (by omega); clear hc2 hf2); (try go_wp2_with fail); refine tr hK (fun hHeld => ?_); clear hK K)
              refine tq 5 hHeld ?_
              refine tq 6 hHeld ?_
              refine tq 7 hHeld ?_
              refine tq 8 hHeld ?_
              refine tq 9 hHeld ?_
              refine tq 10 hHeld ?_
              refine tq 11 hHeld ?_
              refine tq 12 hHeld ?_
              refine tq 13 hHeld ?_
              refine tq 14 hHeld ?_
              refine tq 15 hHeld ?_
              refine tq 16 hHeld ?_
              refine tq 17 hHeld ?_
              refine tq 18 hHeld ?_
              refine tq 19 hHeld ?_
              refine tq 20 hHeld ?_
              refine tq 21 hHeld ?_
              refine tq 22 hHeld ?_
              refine tq 23 hHeld ?_
              refine wpAnyH_done (by kernel_rfl) ?_ _
              go_wp2_with fail
              go_ret
              exact ⟨by rw [bodsB, allBB_no hno.out n hlt, Bool.and_false]; rfl, hB.trans (hb2.ofDr.mono hB.size)⟩
          · have hd0 : decide (0 < k) = false := decide_eq_false hk0
            have HK : Shut (k = 0) := (by omega : k = 0)
            clear hk0 hc
            have hyes : Shut (stepBB U k = true) := by show stepBB U k = true; rw [stepBB, hi, HK.out]; rfl
            refine wp_region_held_drew (S := fun w' => w'.cell? ⟨b, o + k * 12, none⟩ = some (.int .i64 (U (k * 12))) ∧ w'.cell? ⟨b, o + k * 12 + 1, none⟩ = some (.int .i64 (U (k * 12 + 1))) ∧ w'.cell? ⟨b, o + k * 12 + 2, none⟩ = some (.int .i64 (U (k * 12 + 2))) ∧ w'.cell? ⟨b, o + k * 12 + 3, none⟩ = some (.int .i64 (U (k * 12 + 3))) ∧ w'.cell? ⟨b, o + k * 12 + 4, none⟩ = some (.int .i64 (U (k * 12 + 4))) ∧ w'.cell? ⟨b, o + k * 12 + 5, none⟩ = some (.int .i64 (U (k * 12 + 5))) ∧ w'.cell? ⟨b, o + k * 12 + 6, none⟩ = some (.int .i64 (U (k * 12 + 6))) ∧ w'.cell? ⟨b, o + k * 12 + 7, none⟩ = some (.int .i64 (U (k * 12 + 7))) ∧ w'.cell? ⟨b, o + k * 12 + 8, none⟩ = some (.int .i64 (U (k * 12 + 8))) ∧ w'.cell? ⟨b, o + k * 12 + 9, none⟩ = some (.int .i64 (U (k * 12 + 9))) ∧ w'.cell? ⟨b, o + k * 12 + 10, none⟩ = some (.int .i64 (U (k * 12 + 10))) ∧ w'.cell? ⟨b, o + k * 12 + 11, none⟩ = some (.int .i64 (U (k * 12 + 11)))) (by kernel_rfl) ?_ (fun hHeld => ?_)
            · (try dsimp only)
              (first | (go_simp; done) | (go_keep; done))
            refine tq 0 hHeld ?_
            refine tq 1 hHeld ?_
            refine tq 2 hHeld ?_
            refine tq 3 hHeld ?_
            (refine tc 4 fun K hK => ?_; go_simp; (go_at_call 25; refine (sBodyOk_q (fun j => U (k * 12 + j)) _ _ (by exact hi)).mono ?_; rintro e w2 ⟨rfl, hb2⟩; obtain ⟨hc2, hf2⟩ := bcell hb2; have hz2 := hb2.size; (try simp only [World.size_drew, World.size_alloc, World.size_setCell] at hc2 hf2 hz2); have hk3 := fun o => hc2 b o (by omega); clear hc2 hf2); (try go_wp2_with fail); refine tr hK (fun hHeld => ?_); clear hK K)
            refine tq 5 hHeld ?_
            refine tq 6 hHeld ?_
            refine tq 7 hHeld ?_
            refine tq 8 hHeld ?_
            refine tq 9 hHeld ?_
            refine tn 10 hHeld ?_
            refine tn 11 hHeld ?_
            refine tn 12 hHeld ?_
            refine tn 13 hHeld ?_
            refine tn 14 hHeld ?_
            refine tn 15 hHeld ?_
            refine tn 16 hHeld ?_
            refine tn 17 hHeld ?_
            refine tn 18 hHeld ?_
            refine tn 19 hHeld ?_
            refine tn 20 hHeld ?_
            refine tn 21 hHeld ?_
            refine tq 22 hHeld ?_
            refine tq 23 hHeld ?_
            refine wpAnyH_done (by kernel_rfl) ?_ _
            go_wp2_with fail
            go_roundw
            case rel => exact ⟨k + 1, by omega, by go_num, hB.trans (hb2.ofDr.mono hB.size), by rw [allBB, hall.out, hyes.out]; rfl⟩
            case measure => simp [intOf]; omega
      · obtain rfl : k = n := by omega
        by_cases h12 : k ≤ 12
        · have h12' : (k : Int) ≤ 12 := by omega
          go_wp2
          go_ret
          exact ⟨by rw [bodsB, hall.out, decide_eq_true h12]; rfl, hB⟩
        · have h12' : ¬ (k : Int) ≤ 12 := by omega
          go_wp2
          go_ret
          exact ⟨by rw [bodsB, decide_eq_false h12]; rfl, hB⟩
theorem sBodiesOk_q (a : Option Addr) (n c : Nat) (U : Nat → Int) (b : Bool) (w : World) (h : Flat w a (n * 12) U) (hn : n ≤ 1048576) (e : bodsB n U = b) :
    Calls Tryz.prog 15 #[.slice a n c] w fun e w' => e = .returned (.bool b) ∧ Below w.heap.size w w' := by subst e; exact sBodiesOk_any a n c U w h hn
theorem columnsOf_ok (a : Option Addr) (n c : Nat) (U : Nat → Int) (w : World) (h : Flat w a (n * 12) U) (hn : n ≤ 1048576) (e : bodsB n U = true) :
    Calls Tryz.prog 33 #[.slice a n c] w fun e w' => ∃ cb S, e = .returned (.tuple #[.pointer (some ⟨cb, 0, none⟩), .bool true]) ∧ w.heap.size ≤ cb ∧ Cs w' cb n (colOf U) S ∧ Below w.heap.size w w' :=
  (columnsOf_any a n c U w h hn).mono fun e' w' q => by
    obtain ⟨q1, (⟨_, cb, S, q2, q3, q4⟩ | ⟨q2, _⟩)⟩ := q
    · exact ⟨cb, S, q2, q3, q4, q1⟩
    · rw [e] at q2; cases q2
theorem columnsOf_no (a : Option Addr) (n c : Nat) (U : Nat → Int) (w : World) (h : Flat w a (n * 12) U) (hn : n ≤ 1048576) (e : bodsB n U = false) :
    Calls Tryz.prog 33 #[.slice a n c] w fun e w' => e = .returned (.tuple #[.pointer none, .bool false]) ∧ Below w.heap.size w w' :=
  (columnsOf_any a n c U w h hn).mono fun e' w' q => by
    obtain ⟨q1, (⟨q2, _⟩ | ⟨_, q2⟩)⟩ := q
    · rw [e] at q2; cases q2
    · exact ⟨q2, q1⟩
end Go.Proofs.YtejminehbnebmaaGreat
namespace Go.Proofs.YtejminehbnebmaaGreat
open Go.RowKit
set_option linter.unusedVariables false
set_option linter.unusedSimpArgs false

theorem bods_sh {U : Nat → Int} {n k : Nat} (h : bodsB n U = true) (l : k < n) : shB (U (k * 12 + 1)) (U (k * 12 + 2)) (U (k * 12 + 3)) = true ∧ inB 2560000 (U (k * 12 + 4)) (U (k * 12 + 5)) = true := by
  unfold bodsB at h
  rw [Bool.and_eq_true] at h
  have h2 : bodyB (fun j => U (k * 12 + j)) = true := by
    have key : ∀ m, allBB U m = true → k < m → stepBB U k = true := by
      intro m
      induction m with
      | zero => intro _ l; omega
      | succ m ih =>
        intro hm l
        unfold allBB at hm
        rw [Bool.and_eq_true] at hm
        by_cases e : k = m
        · subst e; exact hm.2
        · exact ih hm.1 (by omega)
    have := key n h.2 l
    unfold stepBB at this
    rw [Bool.and_eq_true] at this
    exact this.1
  unfold bodyB at h2
  simp only [Bool.and_eq_true] at h2
  exact ⟨h2.2.1, h2.2.2.1⟩
/-- a list of contacts in its own memory -/
structure LsV (w wr : World) (t k : Nat) (a : Option Addr) (m c : Nat) (l : List Int) : Prop where
  bel : Below w.heap.size w wr
  len : l.length = m * k
  own : OwnL wr w.heap.size t k (.slice a m c) m (ofL l)
theorem LsV.below {w wr w' : World} {t k m c : Nat} {a : Option Addr} {l : List Int} (h : LsV w wr t k a m c l) (hb : Below wr.heap.size wr w') : LsV w w' t k a m c l := ⟨h.bel.trans (hb.mono h.bel.size), h.len, h.own.below hb⟩
theorem LsV.push {w wr w1 : World} {t k m c c' : Nat} {a a' : Option Addr} {l x : List Int} (h : LsV w wr t k a m c l) (hx : x.length = k) (hg : wr.grownBy w1 (Value.slice a m c).ownBlock) (ho : OwnL w1 w.heap.size t k (.slice a' (m + 1) c') (m + 1) (cat (m * k) (ofL l) (ofL x))) : LsV w w1 t k a' (m + 1) c' (l ++ x) :=
  ⟨h.bel.grown hg h.bel.size (fun b e => (h.own.lt b e).1), by rw [List.length_append, h.len, hx, Nat.succ_mul], by rw [← cat_ofL, h.len]; exact ho⟩
theorem LsV.new (w : World) (t k : Nat) : LsV w (w.alloc (.cells #[] t)) t k (some ⟨w.heap.size, 0, none⟩) 0 0 [] :=
  ⟨(Below.refl _ _).alloc (Nat.le_refl _) _, by simp, ⟨by simp [numL], .inr ⟨w.heap.size, 0, #[], rfl, Nat.le_refl _, Go.Deep.blk_alloc_new _ _, Nat.le_refl _, Nat.zero_le _, by simp, by simp [numL]⟩⟩⟩
theorem flat5 (w : World) (p q r s u : Int) (t : TypeId) : Flat (w.alloc (Obj.cells #[.int .i64 p, .int .i64 q, .int .i64 r, .int .i64 s, .int .i64 u] t)) (some ⟨w.heap.size, 0, none⟩) (1 * 5) (ofL [p, q, r, s, u]) := by
  intro _
  refine ⟨w.heap.size, 0, rfl, by simp, fun j hj => ?_⟩
  rw [Nat.zero_add]
  rcases (show j = 0 ∨ j = 1 ∨ j = 2 ∨ j = 3 ∨ j = 4 by omega) with rfl | rfl | rfl | rfl | rfl <;> (simp only [ofL]; go_simp; (try rfl))

end Go.Proofs.YtejminehbnebmaaGreat
