/- Texts of a proof. -/
import Derived.Test.YthijeiehcdoidaaGreatB5
import Derived.Test.YthijeiehcdoidaaGreatB1
import Derived.Test.YthijeiehcdoidaaGreatB4
import Derived.Deep.QuietTactic
import Derived.BigQuiet
import Derived.Deep.RegionWith
import Derived.Deep.RegionHeld3
import Derived.Test.YthijeiehcdoidaaGreatCsAdd
import Derived.Deep.DeepCutAuto
import Derived.Test.YthijeiehcdoidaaGreatB6
set_option maxHeartbeats 16000000
set_option maxRecDepth 20000
namespace Go.Proofs.YthijeiehcdoidaaGreat
open Go.RowKit
set_option linter.unusedVariables false
set_option linter.unusedSimpArgs false
structure Nb (w : World) (b k : Nat) (V : Nat → Int) : Prop where
 c : ∀ j, j < k → w.cell? ⟨b, j, none⟩ = some (.int .i64 (V j))
 f : ∀ o, w.frozen? ⟨b, o, none⟩ = false
 l : b < w.heap.size
theorem Nb.on {w w' : World} {b k : Nat} {V : Nat → Int} (h : Nb w b k V) (hb : Below w.heap.size w w') : Nb w' b k V :=
 ⟨fun j hj => (hb.cell (p := ⟨b, j, none⟩) h.l).trans (h.c j hj), fun o => (hb.frozen (p := ⟨b, o, none⟩) h.l).trans (h.f o), Nat.lt_of_lt_of_le h.l hb.size⟩
theorem Nb.fr {w w' : World} {b k : Nat} {V : Nat → Int} {X : Nat → Prop} (h : Nb w b k V) (hs : Fr X w w') (hx : ¬ X b) : Nb w' b k V :=
 ⟨fun j hj => (hs.cell (p := ⟨b, j, none⟩) h.l hx).trans (h.c j hj), fun o => (hs.frozen (p := ⟨b, o, none⟩) h.l hx).trans (h.f o), Nat.lt_of_lt_of_le h.l hs.size⟩
theorem Nb.dr {w : World} {b k : Nat} {V : Nat → Int} (h : Nb w b k V) : Nb w.drew b k V := ⟨fun j hj => h.c j hj, fun o => h.f o, h.l⟩
theorem Nb.congr {w : World} {b k : Nat} {V W : Nat → Int} (h : Nb w b k V) (e : ∀ j, j < k → V j = W j) : Nb w b k W := ⟨fun j hj => by rw [← e j hj]; exact h.c j hj, h.f, h.l⟩
theorem Nb.set {w : World} {b k : Nat} {V : Nat → Int} (h : Nb w b k V) (j : Nat) (hj : j < k) (x : Int) : Nb (w.setCell ⟨b, j, none⟩ (.int .i64 x)) b k (fun i => if i = j then x else V i) := by
 have h1 := h.c j hj
 refine ⟨fun i hi => ?_, fun o => ?_, by simp; exact h.l⟩
 · by_cases e : i = j
   · subst e; rw [if_pos rfl]; exact World.cell?_setCell_same _ _ _ h1
   · rw [if_neg e, World.cell?_setCell_other _ _ _ _ (by intro h; simp only [Addr.mk.injEq] at h; omega)]; exact h.c i hi
 · have := h.f o; simp [this]
end Go.Proofs.YthijeiehcdoidaaGreat
namespace Go.Proofs.YthijeiehcdoidaaGreat
open Go.RowKit
set_option linter.unusedVariables false
theorem kfy {m : Nat} {W w1 : World} (hc : ∀ b o, b < m → w1.cell? ⟨b, o, none⟩ = W.cell? ⟨b, o, none⟩) (hf : ∀ b o, b < m → w1.frozen? ⟨b, o, none⟩ = W.frozen? ⟨b, o, none⟩) (hz : m ≤ w1.heap.size) (b : Nat) (h : b < m) :
 (∀ o, w1.cell? ⟨b, o, none⟩ = W.cell? ⟨b, o, none⟩) ∧ (∀ o, w1.frozen? ⟨b, o, none⟩ = W.frozen? ⟨b, o, none⟩) ∧ b < w1.heap.size ∧ (b = w1.heap.size) = False ∧ (w1.heap.size = b) = False :=
 have q := Nat.lt_of_lt_of_le h hz
 ⟨fun o => hc b o h, fun o => hf b o h, q, eq_false (Nat.ne_of_lt q), eq_false (Nat.ne_of_gt q)⟩
end Go.Proofs.YthijeiehcdoidaaGreat
namespace Go.Proofs.YthijeiehcdoidaaGreat
open Go.RowKit
set_option linter.unusedVariables false
set_option linter.unusedSimpArgs false
def bb (o : Bool) (x : Int) : Int := if o = true then x else 0
def colOf (U : Nat → Int) : Nat → Nat → Int := fun i k => U (k * 12 + i)
theorem snoc_col (U : Nat → Int) (n : Nat) {i k : Nat} (hk : k < n + 1) : snocC n (colOf U) (fun j => U (n * 12 + j)) i k = colOf U i k := by
 unfold snocC snoc colOf
 by_cases e : k = n
 · rw [if_pos e, e]
 · rw [if_neg e]
theorem rowsOf_any (a : Option Addr) (n c : Nat) (U : Nat → Int) (w : World) (h : Flat w a (n * 12) U) (hn : n ≤ 1048575) :
 Calls Tryz.prog 98 #[.slice a n c] w fun e w' => e = .returned (.pointer (some ⟨w.heap.size, 0, none⟩)) ∧ Below w.heap.size w w' ∧ ∃ S, Cs w' w.heap.size n (colOf U) S := by
 have hset := cset_map
 go_enter Tryz.func98, Tryz.ntmps98
 go_wp2
 go_loopw [5, 10] (fun _ i wr => ∃ k : Nat, k ≤ n ∧ i = .int .i64 (k : Int) ∧ Below w.heap.size w wr ∧ ∃ S, Cs wr w.heap.size k (colOf U) S) (fun _ i _ => n - (intOf i).toNat)
 case atStart =>
  refine ⟨0, Nat.zero_le _, rfl, (Below.refl _ _).alloc (Nat.le_refl _) _, fun _ => .slice none 0 0, fun i hi => ?_, fun i hi => ?_, fun i hi => OwnL.nil _ _ _ _ _, (fun _ _ _ e => by cases e), (fun _ _ _ _ _ _ e => by cases e)⟩
  · rcases (show i = 0 ∨ i = 1 ∨ i = 2 ∨ i = 3 ∨ i = 4 ∨ i = 5 ∨ i = 6 ∨ i = 7 ∨ i = 8 ∨ i = 9 ∨ i = 10 ∨ i = 11 by omega) with rfl | rfl | rfl | rfl | rfl | rfl | rfl | rfl | rfl | rfl | rfl | rfl <;> go_simp
  · go_simp
 case round =>
  obtain ⟨k, hk, rfl, hB, S, hC⟩ := hrel
  by_cases hlt : k < n
  · obtain ⟨b, o, rfl, hbl, hc⟩ := h (by omega)
    have hc' : ∀ q, q < n * 12 → wr.cell? ⟨b, o + q, none⟩ = some (.int .i64 (U q)) := fun q hq => (hB.cell (p := ⟨b, o + q, none⟩) hbl).trans (hc q hq)
    clear hc
    have c0 := hc' (k * 12) (by omega)
    have c1 := hc' (k * 12 + 1) (by omega)
    have c2 := hc' (k * 12 + 2) (by omega)
    have c3 := hc' (k * 12 + 3) (by omega)
    have c4 := hc' (k * 12 + 4) (by omega)
    have c5 := hc' (k * 12 + 5) (by omega)
    have c6 := hc' (k * 12 + 6) (by omega)
    have c7 := hc' (k * 12 + 7) (by omega)
    have c8 := hc' (k * 12 + 8) (by omega)
    have c9 := hc' (k * 12 + 9) (by omega)
    have c10 := hc' (k * 12 + 10) (by omega)
    have c11 := hc' (k * 12 + 11) (by omega)
    simp only [← Nat.add_assoc] at c0 c1 c2 c3 c4 c5 c6 c7 c8 c9 c10 c11
    clear hc'
    go_upto_region 5 with fail
    have hE : Below wr.heap.size wr (wr.alloc (Obj.cells #[.int .i64 (U (k * 12)), .int .i64 (U (k * 12 + 1)), .int .i64 (U (k * 12 + 2)), .int .i64 (U (k * 12 + 3)), .int .i64 (U (k * 12 + 4)), .int .i64 (U (k * 12 + 5)), .int .i64 (U (k * 12 + 6)), .int .i64 (U (k * 12 + 7)), .int .i64 (U (k * 12 + 8)), .int .i64 (U (k * 12 + 9)), .int .i64 (U (k * 12 + 10)), .int .i64 (U (k * 12 + 11))] 41)) := (Below.refl _ _).alloc (Nat.le_refl _) _
    have hB2 := hB.trans (hE.mono hB.size)
    have hC2 := hC.below hE
    have x0 : (wr.alloc (Obj.cells #[.int .i64 (U (k * 12)), .int .i64 (U (k * 12 + 1)), .int .i64 (U (k * 12 + 2)), .int .i64 (U (k * 12 + 3)), .int .i64 (U (k * 12 + 4)), .int .i64 (U (k * 12 + 5)), .int .i64 (U (k * 12 + 6)), .int .i64 (U (k * 12 + 7)), .int .i64 (U (k * 12 + 8)), .int .i64 (U (k * 12 + 9)), .int .i64 (U (k * 12 + 10)), .int .i64 (U (k * 12 + 11))] 41)).cell? ⟨wr.heap.size, 0, none⟩ = some (.int .i64 (U (k * 12))) := by go_simp
    have x1 : (wr.alloc (Obj.cells #[.int .i64 (U (k * 12)), .int .i64 (U (k * 12 + 1)), .int .i64 (U (k * 12 + 2)), .int .i64 (U (k * 12 + 3)), .int .i64 (U (k * 12 + 4)), .int .i64 (U (k * 12 + 5)), .int .i64 (U (k * 12 + 6)), .int .i64 (U (k * 12 + 7)), .int .i64 (U (k * 12 + 8)), .int .i64 (U (k * 12 + 9)), .int .i64 (U (k * 12 + 10)), .int .i64 (U (k * 12 + 11))] 41)).cell? ⟨wr.heap.size, 1, none⟩ = some (.int .i64 (U (k * 12 + 1))) := by go_simp
    have x2 : (wr.alloc (Obj.cells #[.int .i64 (U (k * 12)), .int .i64 (U (k * 12 + 1)), .int .i64 (U (k * 12 + 2)), .int .i64 (U (k * 12 + 3)), .int .i64 (U (k * 12 + 4)), .int .i64 (U (k * 12 + 5)), .int .i64 (U (k * 12 + 6)), .int .i64 (U (k * 12 + 7)), .int .i64 (U (k * 12 + 8)), .int .i64 (U (k * 12 + 9)), .int .i64 (U (k * 12 + 10)), .int .i64 (U (k * 12 + 11))] 41)).cell? ⟨wr.heap.size, 2, none⟩ = some (.int .i64 (U (k * 12 + 2))) := by go_simp
    have x3 : (wr.alloc (Obj.cells #[.int .i64 (U (k * 12)), .int .i64 (U (k * 12 + 1)), .int .i64 (U (k * 12 + 2)), .int .i64 (U (k * 12 + 3)), .int .i64 (U (k * 12 + 4)), .int .i64 (U (k * 12 + 5)), .int .i64 (U (k * 12 + 6)), .int .i64 (U (k * 12 + 7)), .int .i64 (U (k * 12 + 8)), .int .i64 (U (k * 12 + 9)), .int .i64 (U (k * 12 + 10)), .int .i64 (U (k * 12 + 11))] 41)).cell? ⟨wr.heap.size, 3, none⟩ = some (.int .i64 (U (k * 12 + 3))) := by go_simp
    have x4 : (wr.alloc (Obj.cells #[.int .i64 (U (k * 12)), .int .i64 (U (k * 12 + 1)), .int .i64 (U (k * 12 + 2)), .int .i64 (U (k * 12 + 3)), .int .i64 (U (k * 12 + 4)), .int .i64 (U (k * 12 + 5)), .int .i64 (U (k * 12 + 6)), .int .i64 (U (k * 12 + 7)), .int .i64 (U (k * 12 + 8)), .int .i64 (U (k * 12 + 9)), .int .i64 (U (k * 12 + 10)), .int .i64 (U (k * 12 + 11))] 41)).cell? ⟨wr.heap.size, 4, none⟩ = some (.int .i64 (U (k * 12 + 4))) := by go_simp
    have x5 : (wr.alloc (Obj.cells #[.int .i64 (U (k * 12)), .int .i64 (U (k * 12 + 1)), .int .i64 (U (k * 12 + 2)), .int .i64 (U (k * 12 + 3)), .int .i64 (U (k * 12 + 4)), .int .i64 (U (k * 12 + 5)), .int .i64 (U (k * 12 + 6)), .int .i64 (U (k * 12 + 7)), .int .i64 (U (k * 12 + 8)), .int .i64 (U (k * 12 + 9)), .int .i64 (U (k * 12 + 10)), .int .i64 (U (k * 12 + 11))] 41)).cell? ⟨wr.heap.size, 5, none⟩ = some (.int .i64 (U (k * 12 + 5))) := by go_simp
    have x6 : (wr.alloc (Obj.cells #[.int .i64 (U (k * 12)), .int .i64 (U (k * 12 + 1)), .int .i64 (U (k * 12 + 2)), .int .i64 (U (k * 12 + 3)), .int .i64 (U (k * 12 + 4)), .int .i64 (U (k * 12 + 5)), .int .i64 (U (k * 12 + 6)), .int .i64 (U (k * 12 + 7)), .int .i64 (U (k * 12 + 8)), .int .i64 (U (k * 12 + 9)), .int .i64 (U (k * 12 + 10)), .int .i64 (U (k * 12 + 11))] 41)).cell? ⟨wr.heap.size, 6, none⟩ = some (.int .i64 (U (k * 12 + 6))) := by go_simp
    have x7 : (wr.alloc (Obj.cells #[.int .i64 (U (k * 12)), .int .i64 (U (k * 12 + 1)), .int .i64 (U (k * 12 + 2)), .int .i64 (U (k * 12 + 3)), .int .i64 (U (k * 12 + 4)), .int .i64 (U (k * 12 + 5)), .int .i64 (U (k * 12 + 6)), .int .i64 (U (k * 12 + 7)), .int .i64 (U (k * 12 + 8)), .int .i64 (U (k * 12 + 9)), .int .i64 (U (k * 12 + 10)), .int .i64 (U (k * 12 + 11))] 41)).cell? ⟨wr.heap.size, 7, none⟩ = some (.int .i64 (U (k * 12 + 7))) := by go_simp
    have x8 : (wr.alloc (Obj.cells #[.int .i64 (U (k * 12)), .int .i64 (U (k * 12 + 1)), .int .i64 (U (k * 12 + 2)), .int .i64 (U (k * 12 + 3)), .int .i64 (U (k * 12 + 4)), .int .i64 (U (k * 12 + 5)), .int .i64 (U (k * 12 + 6)), .int .i64 (U (k * 12 + 7)), .int .i64 (U (k * 12 + 8)), .int .i64 (U (k * 12 + 9)), .int .i64 (U (k * 12 + 10)), .int .i64 (U (k * 12 + 11))] 41)).cell? ⟨wr.heap.size, 8, none⟩ = some (.int .i64 (U (k * 12 + 8))) := by go_simp
    have x9 : (wr.alloc (Obj.cells #[.int .i64 (U (k * 12)), .int .i64 (U (k * 12 + 1)), .int .i64 (U (k * 12 + 2)), .int .i64 (U (k * 12 + 3)), .int .i64 (U (k * 12 + 4)), .int .i64 (U (k * 12 + 5)), .int .i64 (U (k * 12 + 6)), .int .i64 (U (k * 12 + 7)), .int .i64 (U (k * 12 + 8)), .int .i64 (U (k * 12 + 9)), .int .i64 (U (k * 12 + 10)), .int .i64 (U (k * 12 + 11))] 41)).cell? ⟨wr.heap.size, 9, none⟩ = some (.int .i64 (U (k * 12 + 9))) := by go_simp
    have x10 : (wr.alloc (Obj.cells #[.int .i64 (U (k * 12)), .int .i64 (U (k * 12 + 1)), .int .i64 (U (k * 12 + 2)), .int .i64 (U (k * 12 + 3)), .int .i64 (U (k * 12 + 4)), .int .i64 (U (k * 12 + 5)), .int .i64 (U (k * 12 + 6)), .int .i64 (U (k * 12 + 7)), .int .i64 (U (k * 12 + 8)), .int .i64 (U (k * 12 + 9)), .int .i64 (U (k * 12 + 10)), .int .i64 (U (k * 12 + 11))] 41)).cell? ⟨wr.heap.size, 10, none⟩ = some (.int .i64 (U (k * 12 + 10))) := by go_simp
    have x11 : (wr.alloc (Obj.cells #[.int .i64 (U (k * 12)), .int .i64 (U (k * 12 + 1)), .int .i64 (U (k * 12 + 2)), .int .i64 (U (k * 12 + 3)), .int .i64 (U (k * 12 + 4)), .int .i64 (U (k * 12 + 5)), .int .i64 (U (k * 12 + 6)), .int .i64 (U (k * 12 + 7)), .int .i64 (U (k * 12 + 8)), .int .i64 (U (k * 12 + 9)), .int .i64 (U (k * 12 + 10)), .int .i64 (U (k * 12 + 11))] 41)).cell? ⟨wr.heap.size, 11, none⟩ = some (.int .i64 (U (k * 12 + 11))) := by go_simp
    generalize (wr.alloc (Obj.cells #[.int .i64 (U (k * 12)), .int .i64 (U (k * 12 + 1)), .int .i64 (U (k * 12 + 2)), .int .i64 (U (k * 12 + 3)), .int .i64 (U (k * 12 + 4)), .int .i64 (U (k * 12 + 5)), .int .i64 (U (k * 12 + 6)), .int .i64 (U (k * 12 + 7)), .int .i64 (U (k * 12 + 8)), .int .i64 (U (k * 12 + 9)), .int .i64 (U (k * 12 + 10)), .int .i64 (U (k * 12 + 11))] 41)) = wx at hE hB2 hC2 x0 x1 x2 x3 x4 x5 x6 x7 x8 x9 x10 x11 ⊢
    clear c0 c1 c2 c3 c4 c5 c6 c7 c8 c9 c10 c11 hE hC hB
    go_wp2_with (go_at_call 121; refine (add_any w.heap.size k (colOf U) (fun j => U (k * 12 + j)) S _ hC2 (by omega)).mono ?_; rintro e w1 ⟨rfl, S1, hC1, hF1⟩)
    go_roundw
    case rel => exact ⟨k + 1, by omega, by go_num, hB2.trans (hF1.below hB2.size (fun x q => q.elim (fun q => Nat.le_of_eq q.symm) (fun q => Nat.le_of_lt (hC2.xlt q).1))), S1, hC1.congr fun i q _ hq => snoc_col U k hq⟩
    case measure => simp [intOf]; omega
  · go_wp2
    go_ret
    obtain rfl : k = n := by omega
    exact ⟨rfl, hB, S, hC⟩
def hitB (x y k : Int) : Bool := inB 256 x y && decide (0 ≤ k ∧ k ≤ 102400)
def Dn (x : Int) : Prop := -1099511627776 ≤ x ∧ x ≤ 1099511627776
theorem RB.size {w0 w : World} {rb p : Nat} (h : RB w0 w rb p) : w0.heap.size ≤ w.heap.size := by
 have := (h.old (B := 0) (Nat.zero_le _) (Nat.zero_le _)).size
 exact this
end Go.Proofs.YthijeiehcdoidaaGreat
