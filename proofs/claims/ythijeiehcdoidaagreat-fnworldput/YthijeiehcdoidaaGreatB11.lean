/- Texts of a proof. -/
import Derived.Test.YthijeiehcdoidaaGreatB1
import Derived.Test.YthijeiehcdoidaaGreatB2
import Derived.Lib.AppendZeros
import Derived.Deep.RegionHeld3
import Derived.Deep.DeepCutAuto
import Derived.Test.YthijeiehcdoidaaGreatB5
import Derived.Test.YthijeiehcdoidaaGreatB6
set_option maxHeartbeats 16000000
set_option maxRecDepth 20000
namespace Go.Proofs.YthijeiehcdoidaaGreat
open Go.RowKit
set_option linter.unusedVariables false
set_option linter.unusedSimpArgs false
def lenS (L : Nat → Nat) : Nat → Nat
 | 0 => 0
 | k + 1 => lenS L k + L k
theorem lenS_mono (L : Nat → Nat) : ∀ (k r : Nat), k ≤ r → lenS L k ≤ lenS L r
 | k, 0, h => by rw [Nat.le_zero.1 h]; exact Nat.le_refl _
 | k, r + 1, h => by
  rcases Nat.lt_or_eq_of_le h with h | h
  · exact Nat.le_trans (lenS_mono L k r (by omega)) (show lenS L r ≤ lenS L r + L r by omega)
  · rw [h]; exact Nat.le_refl _
abbrev zcBody : Value := .agg #[.int .i64 0, .int .i64 0, .int .i64 0, .int .i64 0, .int .i64 0, .int .i64 0, .int .i64 0, .int .i64 0, .int .i64 0, .int .i64 0, .int .i64 0, .int .i64 0]
theorem infoItBody : (Tryz.prog.info? 41).map (fun i => (i.zero, i.size, i.bytes)) = some (some zcBody, 12, 96) := by kernel_rfl
theorem growBody (n : Nat) (w : World) (hn : n ≤ 2097152) (U : Nat → Int) :
 Calls Tryz.prog 76 #[.slice none 0 0, .int .i64 (n : Int)] w fun e w' => ∃ a c, e = .returned (.slice a 0 c) ∧ OwnL w' w.heap.size 41 12 (.slice a 0 c) 0 U ∧ Below w.heap.size w w' := by
 by_cases h0 : n = 0
 · subst h0
   go_enter Tryz.func76, Tryz.ntmps76
   go_wp2
   go_ret
   exact ⟨none, 0, rfl, OwnL.nil _ _ _ _ _, Below.refl _ _⟩
 · have hp : (0 : Int) < (n : Int) := by omega
   have hnn : ¬ ((n : Int) < 0) := by omega
   obtain ⟨i, hi, hzz⟩ := Option.map_eq_some_iff.1 infoItBody
   simp only [Prod.mk.injEq] at hzz
   obtain ⟨hz, hs, hb⟩ := hzz
   have hr := Go.Lib.run_append_nil_zeros (P := Tryz.prog) w 23 3 23 41 i zcBody .i64 .i64 Tryz.underlying23 Tryz.underlying3 hi hz n (by omega) (by rw [hs]; decide) (by omega) (by rw [hb]; omega)
   have hcap := grownCap_ge w n 0 41
   have hmax := grownCap_le_maxLen w n 0 41 (by unfold maxLen; omega)
   have hM : (Builtin.zeroCells zcBody.cells n ++ Builtin.zeroCells zcBody.cells (grownCap w n 0 41 - n)).size = grownCap w n 0 41 * 12 := by
    rw [Array.size_append, size_zeroCells, size_zeroCells, ← Nat.add_mul, Nat.add_sub_cancel' hcap]; rfl
   generalize grownCap w n 0 41 = cp at hr hcap hmax hM
   generalize Builtin.zeroCells zcBody.cells n ++ Builtin.zeroCells zcBody.cells (cp - n) = M at hr hM
   have hcp : 0 ≤ (cp : Int) := by omega
   go_enter Tryz.func76, Tryz.ntmps76
   go_wp2_with (refine Go.Lib.wpList_append_run _ rfl _ _ _ _ rfl _ _ rfl rfl _ _ hr ?_)
   go_ret
   refine ⟨_, _, rfl, ?_, (Below.refl _ _).drew.alloc (by simp) _⟩
   refine ⟨by simp [numL], .inr ⟨w.heap.size, cp, M, rfl, Nat.le_refl _, ?_, Nat.zero_le _, hmax, hM, by simp [numL]⟩⟩
   exact Go.Deep.blk_alloc_new w.drew (.cells M 41)
def catSBody (L : Nat → Nat) (X : Nat → Nat → Int) : Nat → Nat → Int
 | 0 => fun _ => 0
 | k + 1 => cat (lenS L k * 12) (catSBody L X k) (X k)
theorem concatBody (b0 r c0 : Nat) (A : Nat → Option Addr) (L C : Nat → Nat) (X : Nat → Nat → Int) (w : World) (hb0 : b0 < w.heap.size) (hr : r ≤ 3)
 (hc : ∀ j, j < r → w.cell? ⟨b0, j, none⟩ = some (.slice (A j) (L j) (C j))) (hF : ∀ j, j < r → Flat w (A j) (L j * 12) (X j)) (hL : lenS L r ≤ 2097152) :
 Calls Tryz.prog 43 #[.slice (some ⟨b0, 0, none⟩) r c0] w fun e w' => ∃ a c, e = .returned (.slice a (lenS L r) c) ∧ OwnL w' w.heap.size 41 12 (.slice a (lenS L r) c) (lenS L r) (catSBody L X r) ∧ Below w.heap.size w w' := by
 go_enter Tryz.func43, Tryz.ntmps43
 go_wp2
 go_loop [3, 11] (fun s i => ∃ k : Nat, k ≤ r ∧ i = .int .i64 (k : Int) ∧ s = .int .i64 (lenS L k : Int)) (fun _ i => r - (intOf i).toNat)
 case atStart => exact ⟨0, Nat.zero_le _, rfl, rfl⟩
 case round =>
  obtain ⟨k, hk, rfl, rfl⟩ := hrel
  by_cases hlt : k < r
  · have hkr : (k : Int) < (r : Int) := by omega
    have c1 := hc k hlt
    have hm := lenS_mono L (k + 1) r (by omega)
    have hs : lenS L (k + 1) = lenS L k + L k := rfl
    have hnn : ¬ ((lenS L k : Int) + (L k : Int) < 0) := by omega
    go_wp2
    go_round
    case rel => exact ⟨k + 1, by omega, by go_num, by rw [hs]; go_num⟩
    case measure => simp [intOf]; omega
  · obtain rfl : k = r := by omega
    go_wp2_with (go_at_call 76; refine (growBody _ _ (by omega) (fun _ => 0)).mono ?_; rintro e w1 ⟨a1, c1, rfl, ho1, hb1⟩)
    go_loopw [6, 27] (fun s i wr => ∃ (j : Nat) (a c : _) , j ≤ k ∧ i = .int .i64 (j : Int) ∧ s = .slice a (lenS L j) c ∧ OwnL wr w.heap.size 41 12 (.slice a (lenS L j) c) (lenS L j) (catSBody L X j) ∧ Below w.heap.size w wr) (fun _ i _ => k - (intOf i).toNat)
    case atStart => exact ⟨0, a1, c1, Nat.zero_le _, rfl, rfl, ho1, hb1⟩
    case round =>
     obtain ⟨j, a, c, hj, rfl, rfl, ho, hB⟩ := hrel
     have hsz := hB.size
     by_cases hlt2 : j < k
     · have hkr : (j : Int) < (k : Int) := by omega
       have c2 : wr.cell? ⟨b0, j, none⟩ = some (.slice (A j) (L j) (C j)) := (hB.cell (p := ⟨b0, j, none⟩) hb0).trans (hc j hlt2)
       have hm := lenS_mono L (j + 1) k (by omega)
       have hs : lenS L (j + 1) = lenS L j + L j := rfl
       have hFj : Flat wr (A j) (L j * 12) (X j) := (hF j hlt2).below hB
       have HS : Shut (lenS L (j + 1) = lenS L j + L j) := hs
       clear hs
       go_wp2_with (refine wpList_app rfl _ _ _ rfl w.heap.size 41 12 96 zcBody Tryz.underlying23 infoItBody rfl (by decide) _ _ _ rfl ho _ _ _ _ rfl hFj (by unfold maxLen; have := HS.out; omega) (by have := HS.out; omega) hsz ?_; intro a2 c2 w2 ho2 hg2)
       go_roundw
       case rel => exact ⟨j + 1, a2, c2, by omega, by go_num, by rw [HS.out], by have := HS.out; rw [this]; exact ho2, hB.grown hg2 hsz (fun b hb => (ho.lt b hb).1)⟩
       case measure => simp [intOf]; omega
     · obtain rfl : j = k := by omega
       go_wp2
       go_ret
       exact ⟨a, c, rfl, ho, hB⟩
theorem cat0Body (X Y : Nat → Int) : ∀ q, cat (0 * 12) X Y q = Y q := by intro q; simp [cat]
theorem concat1Body (b0 c0 : Nat) (a : Option Addr) (n c : Nat) (U : Nat → Int) (w : World) (hb0 : b0 < w.heap.size) (hc : w.cell? ⟨b0, 0, none⟩ = some (.slice a n c)) (hF : Flat w a (n * 12) U) (hn : n ≤ 2097152) :
 Calls Tryz.prog 43 #[.slice (some ⟨b0, 0, none⟩) 1 c0] w fun e w' => ∃ a' c', e = .returned (.slice a' n c') ∧ OwnL w' w.heap.size 41 12 (.slice a' n c') n U ∧ Below w.heap.size w w' := by
 have e : lenS (fun _ => n) 1 = n := by simp [lenS]
 have q := concatBody b0 1 c0 (fun _ => a) (fun _ => n) (fun _ => c) (fun _ => U) w hb0 (by omega) (fun j hj => by obtain rfl : j = 0 := (by omega); exact hc) (fun j _ => hF) (by omega)
 rw [e] at q
 refine q.mono ?_
 rintro e w' ⟨a', c', h1, h2, h3⟩
 exact ⟨a', c', h1, h2.congr fun q _ => by simp only [catSBody, lenS]; exact cat0Body _ _ q, h3⟩
theorem concat2Body (b0 c0 : Nat) (a1 a2 : Option Addr) (n1 n2 c1 c2 : Nat) (U1 U2 : Nat → Int) (w : World) (hb0 : b0 < w.heap.size) (hc1 : w.cell? ⟨b0, 0, none⟩ = some (.slice a1 n1 c1)) (hc2 : w.cell? ⟨b0, 1, none⟩ = some (.slice a2 n2 c2)) (hF1 : Flat w a1 (n1 * 12) U1) (hF2 : Flat w a2 (n2 * 12) U2) (hn : n1 + n2 ≤ 2097152) :
 Calls Tryz.prog 43 #[.slice (some ⟨b0, 0, none⟩) 2 c0] w fun e w' => ∃ a' c', e = .returned (.slice a' (n1 + n2) c') ∧ OwnL w' w.heap.size 41 12 (.slice a' (n1 + n2) c') (n1 + n2) (cat (n1 * 12) U1 U2) ∧ Below w.heap.size w w' := by
 have e : lenS (fun j => if j = 0 then n1 else n2) 2 = n1 + n2 := by simp [lenS]
 have q := concatBody b0 2 c0 (fun j => if j = 0 then a1 else a2) (fun j => if j = 0 then n1 else n2) (fun j => if j = 0 then c1 else c2) (fun j => if j = 0 then U1 else U2) w hb0 (by omega)
  (fun j hj => by rcases (show j = 0 ∨ j = 1 by omega) with rfl | rfl; exact hc1; exact hc2) (fun j hj => by rcases (show j = 0 ∨ j = 1 by omega) with rfl | rfl; exact hF1; exact hF2) (by omega)
 rw [e] at q
 refine q.mono ?_
 rintro e w' ⟨a', c', h1, h2, h3⟩
 exact ⟨a', c', h1, h2.congr fun q _ => by simp [catSBody, lenS, cat], h3⟩
abbrev zcPair : Value := .agg #[.int .i64 0, .int .i64 0]
theorem infoItPair : (Tryz.prog.info? 58).map (fun i => (i.zero, i.size, i.bytes)) = some (some zcPair, 2, 16) := by kernel_rfl
theorem growPair (n : Nat) (w : World) (hn : n ≤ 2097152) (U : Nat → Int) :
 Calls Tryz.prog 96 #[.slice none 0 0, .int .i64 (n : Int)] w fun e w' => ∃ a c, e = .returned (.slice a 0 c) ∧ OwnL w' w.heap.size 58 2 (.slice a 0 c) 0 U ∧ Below w.heap.size w w' := by
 by_cases h0 : n = 0
 · subst h0
   go_enter Tryz.func96, Tryz.ntmps96
   go_wp2
   go_ret
   exact ⟨none, 0, rfl, OwnL.nil _ _ _ _ _, Below.refl _ _⟩
 · have hp : (0 : Int) < (n : Int) := by omega
   have hnn : ¬ ((n : Int) < 0) := by omega
   obtain ⟨i, hi, hzz⟩ := Option.map_eq_some_iff.1 infoItPair
   simp only [Prod.mk.injEq] at hzz
   obtain ⟨hz, hs, hb⟩ := hzz
   have hr := Go.Lib.run_append_nil_zeros (P := Tryz.prog) w 24 3 24 58 i zcPair .i64 .i64 Tryz.underlying24 Tryz.underlying3 hi hz n (by omega) (by rw [hs]; decide) (by omega) (by rw [hb]; omega)
   have hcap := grownCap_ge w n 0 58
   have hmax := grownCap_le_maxLen w n 0 58 (by unfold maxLen; omega)
   have hM : (Builtin.zeroCells zcPair.cells n ++ Builtin.zeroCells zcPair.cells (grownCap w n 0 58 - n)).size = grownCap w n 0 58 * 2 := by
    rw [Array.size_append, size_zeroCells, size_zeroCells, ← Nat.add_mul, Nat.add_sub_cancel' hcap]; rfl
   generalize grownCap w n 0 58 = cp at hr hcap hmax hM
   generalize Builtin.zeroCells zcPair.cells n ++ Builtin.zeroCells zcPair.cells (cp - n) = M at hr hM
   have hcp : 0 ≤ (cp : Int) := by omega
   go_enter Tryz.func96, Tryz.ntmps96
   go_wp2_with (refine Go.Lib.wpList_append_run _ rfl _ _ _ _ rfl _ _ rfl rfl _ _ hr ?_)
   go_ret
   refine ⟨_, _, rfl, ?_, (Below.refl _ _).drew.alloc (by simp) _⟩
   refine ⟨by simp [numL], .inr ⟨w.heap.size, cp, M, rfl, Nat.le_refl _, ?_, Nat.zero_le _, hmax, hM, by simp [numL]⟩⟩
   exact Go.Deep.blk_alloc_new w.drew (.cells M 58)
def catSPair (L : Nat → Nat) (X : Nat → Nat → Int) : Nat → Nat → Int
 | 0 => fun _ => 0
 | k + 1 => cat (lenS L k * 2) (catSPair L X k) (X k)
theorem concatPair (b0 r c0 : Nat) (A : Nat → Option Addr) (L C : Nat → Nat) (X : Nat → Nat → Int) (w : World) (hb0 : b0 < w.heap.size) (hr : r ≤ 3)
 (hc : ∀ j, j < r → w.cell? ⟨b0, j, none⟩ = some (.slice (A j) (L j) (C j))) (hF : ∀ j, j < r → Flat w (A j) (L j * 2) (X j)) (hL : lenS L r ≤ 2097152) :
 Calls Tryz.prog 64 #[.slice (some ⟨b0, 0, none⟩) r c0] w fun e w' => ∃ a c, e = .returned (.slice a (lenS L r) c) ∧ OwnL w' w.heap.size 58 2 (.slice a (lenS L r) c) (lenS L r) (catSPair L X r) ∧ Below w.heap.size w w' := by
 go_enter Tryz.func64, Tryz.ntmps64
 go_wp2
 go_loop [3, 11] (fun s i => ∃ k : Nat, k ≤ r ∧ i = .int .i64 (k : Int) ∧ s = .int .i64 (lenS L k : Int)) (fun _ i => r - (intOf i).toNat)
 case atStart => exact ⟨0, Nat.zero_le _, rfl, rfl⟩
 case round =>
  obtain ⟨k, hk, rfl, rfl⟩ := hrel
  by_cases hlt : k < r
  · have hkr : (k : Int) < (r : Int) := by omega
    have c1 := hc k hlt
    have hm := lenS_mono L (k + 1) r (by omega)
    have hs : lenS L (k + 1) = lenS L k + L k := rfl
    have hnn : ¬ ((lenS L k : Int) + (L k : Int) < 0) := by omega
    go_wp2
    go_round
    case rel => exact ⟨k + 1, by omega, by go_num, by rw [hs]; go_num⟩
    case measure => simp [intOf]; omega
  · obtain rfl : k = r := by omega
    go_wp2_with (go_at_call 96; refine (growPair _ _ (by omega) (fun _ => 0)).mono ?_; rintro e w1 ⟨a1, c1, rfl, ho1, hb1⟩)
    go_loopw [6, 27] (fun s i wr => ∃ (j : Nat) (a c : _) , j ≤ k ∧ i = .int .i64 (j : Int) ∧ s = .slice a (lenS L j) c ∧ OwnL wr w.heap.size 58 2 (.slice a (lenS L j) c) (lenS L j) (catSPair L X j) ∧ Below w.heap.size w wr) (fun _ i _ => k - (intOf i).toNat)
    case atStart => exact ⟨0, a1, c1, Nat.zero_le _, rfl, rfl, ho1, hb1⟩
    case round =>
     obtain ⟨j, a, c, hj, rfl, rfl, ho, hB⟩ := hrel
     have hsz := hB.size
     by_cases hlt2 : j < k
     · have hkr : (j : Int) < (k : Int) := by omega
       have c2 : wr.cell? ⟨b0, j, none⟩ = some (.slice (A j) (L j) (C j)) := (hB.cell (p := ⟨b0, j, none⟩) hb0).trans (hc j hlt2)
       have hm := lenS_mono L (j + 1) k (by omega)
       have hs : lenS L (j + 1) = lenS L j + L j := rfl
       have hFj : Flat wr (A j) (L j * 2) (X j) := (hF j hlt2).below hB
       have HS : Shut (lenS L (j + 1) = lenS L j + L j) := hs
       clear hs
       go_wp2_with (refine wpList_app rfl _ _ _ rfl w.heap.size 58 2 16 zcPair Tryz.underlying24 infoItPair rfl (by decide) _ _ _ rfl ho _ _ _ _ rfl hFj (by unfold maxLen; have := HS.out; omega) (by have := HS.out; omega) hsz ?_; intro a2 c2 w2 ho2 hg2)
       go_roundw
       case rel => exact ⟨j + 1, a2, c2, by omega, by go_num, by rw [HS.out], by have := HS.out; rw [this]; exact ho2, hB.grown hg2 hsz (fun b hb => (ho.lt b hb).1)⟩
       case measure => simp [intOf]; omega
     · obtain rfl : j = k := by omega
       go_wp2
       go_ret
       exact ⟨a, c, rfl, ho, hB⟩
theorem cat0Pair (X Y : Nat → Int) : ∀ q, cat (0 * 2) X Y q = Y q := by intro q; simp [cat]
theorem concat1Pair (b0 c0 : Nat) (a : Option Addr) (n c : Nat) (U : Nat → Int) (w : World) (hb0 : b0 < w.heap.size) (hc : w.cell? ⟨b0, 0, none⟩ = some (.slice a n c)) (hF : Flat w a (n * 2) U) (hn : n ≤ 2097152) :
 Calls Tryz.prog 64 #[.slice (some ⟨b0, 0, none⟩) 1 c0] w fun e w' => ∃ a' c', e = .returned (.slice a' n c') ∧ OwnL w' w.heap.size 58 2 (.slice a' n c') n U ∧ Below w.heap.size w w' := by
 have e : lenS (fun _ => n) 1 = n := by simp [lenS]
 have q := concatPair b0 1 c0 (fun _ => a) (fun _ => n) (fun _ => c) (fun _ => U) w hb0 (by omega) (fun j hj => by obtain rfl : j = 0 := (by omega); exact hc) (fun j _ => hF) (by omega)
 rw [e] at q
 refine q.mono ?_
 rintro e w' ⟨a', c', h1, h2, h3⟩
 exact ⟨a', c', h1, h2.congr fun q _ => by simp only [catSPair, lenS]; exact cat0Pair _ _ q, h3⟩
end Go.Proofs.YthijeiehcdoidaaGreat
namespace Go.Proofs.YthijeiehcdoidaaGreat
open Go.RowKit
set_option linter.unusedVariables false
set_option linter.unusedSimpArgs false
theorem OwnL.fresh0 (w : World) (base t k : Nat) (U : Nat → Int) (s : Nat) (e : w.heap.size = s) (h : base ≤ w.heap.size) : OwnL (w.alloc (.cells #[] t)) base t k (.slice (Option.some ⟨s, 0, none⟩) 0 0) 0 U := by
 subst e
 exact ⟨by simp [numL], .inr ⟨w.heap.size, 0, #[], rfl, h, Go.Deep.blk_alloc_new _ _, Nat.le_refl _, Nat.zero_le _, by simp, by simp [numL]⟩⟩
theorem OwnL.drewO {w : World} {base t k n : Nat} {v : Value} {U : Nat → Int} (h : OwnL w base t k v n U) : OwnL w.drew base t k v n U := World.ownsRow.drew h
theorem cat_0 (k : Nat) (X Y : Nat → Int) : ∀ q, cat (0 * k) X Y q = Y q := by intro q; simp [cat]
section
variable {P : Program} {ops : Array Oper} {o : Oper} {a : Act} {w : World} {Q : Exit → Act → World → Prop}
theorem wpList_app0 {rest : List Oper} (hgd : o.guard = none) (s x : Operand) (t : TypeId) (ho : o.op = .call { callee := .builtin .append, args := #[s, x], argTypes := #[t, t] })
 (base e k bytes : Nat) (z : Value) (ht : P.underlying t = some (.slice e)) (hinfo : (P.info? e).map (fun i => (i.zero, i.size, i.bytes)) = some (some z, k, bytes)) (hzs : z.cells.size = k) (hk : 0 < k)
 (v : Value) (U : Nat → Int) (hs : a.eval s = v) (h : OwnL w base e k v 0 U) (ad : Option Addr) (m c : Nat) (X : Nat → Int) (hxx : a.eval x = .slice ad m c) (hx : Flat w ad (m * k) X)
 (h63 : m ≤ maxLen) (hbytes : m * bytes ≤ 140737488355328) (hbase : base ≤ w.heap.size)
 (hK : ∀ a' c' w', OwnL w' base e k (.slice a' m c') m X → w.grownBy w' v.ownBlock → wpList P ops Q rest (a.put o.dst (.slice a' m c')) w') : wpList P ops Q (o :: rest) a w :=
 wpList_app hgd s x t ho base e k bytes z ht hinfo hzs hk v 0 U hs h ad m c X hxx hx (by rw [Nat.zero_add]; exact h63) (by rw [Nat.zero_add]; exact hbytes) hbase fun a' c' w' h1 h2 => by
  rw [Nat.zero_add] at h1 ⊢
  exact hK a' c' w' (h1.congr fun q _ => cat_0 k _ _ q) h2
theorem step_app0 {K : Act → World → Prop} {E : Prop} (hgd : o.guard = none) (s x : Operand) (t : TypeId) (ho : o.op = .call { callee := .builtin .append, args := #[s, x], argTypes := #[t, t] })
 (base e k bytes : Nat) (z : Value) (ht : P.underlying t = some (.slice e)) (hinfo : (P.info? e).map (fun i => (i.zero, i.size, i.bytes)) = some (some z, k, bytes)) (hzs : z.cells.size = k) (hk : 0 < k)
 (v : Value) (U : Nat → Int) (hs : a.eval s = v) (h : OwnL w base e k v 0 U) (ad : Option Addr) (m c : Nat) (X : Nat → Int) (hxx : a.eval x = .slice ad m c) (hx : Flat w ad (m * k) X)
 (h63 : m ≤ maxLen) (hbytes : m * bytes ≤ 140737488355328) (hbase : base ≤ w.heap.size)
 (hK : ∀ a' c' w', OwnL w' base e k (.slice a' m c') m X → w.grownBy w' v.ownBlock → K (a.put o.dst (.slice a' m c')) w') :
 if Region.wanted o (yielded ops a.tmps) = true then Oper.wp P o a w K Q else E :=
 step_app hgd s x t ho base e k bytes z ht hinfo hzs hk v 0 U hs h ad m c X hxx hx (by rw [Nat.zero_add]; exact h63) (by rw [Nat.zero_add]; exact hbytes) hbase fun a' c' w' h1 h2 => by
  rw [Nat.zero_add] at h1 ⊢
  exact hK a' c' w' (h1.congr fun q _ => cat_0 k _ _ q) h2
end
theorem l8Copy_any (a : Option Addr) (n c : Nat) (U : Nat → Int) (w : World) (h : Flat w a (n * 12) U) (hn : n ≤ 1048576) :
 Calls Tryz.prog 72 #[.slice a n c] w fun e w' => ∃ a1 c1, e = .returned (.slice a1 n c1) ∧ OutL w w' 41 12 a1 n c1 U := by
 have hset := cset_map
 have hE : Below w.heap.size w (w.alloc (.cells #[] 41)) := (Below.refl _ _).alloc (Nat.le_refl _) _
 have ho := OwnL.fresh0 w w.heap.size 41 12 (fun _ => 0) _ rfl (Nat.le_refl _)
 go_enter Tryz.func72, Tryz.ntmps72
 go_wp2_with (refine wpList_app0 rfl _ _ _ rfl w.heap.size 41 12 96 zcBody Tryz.underlying23 infoItBody rfl (by decide) _ (fun _ => 0) rfl ho _ n _ U rfl (h.below hE) (by unfold maxLen; omega) (by omega) (by simp) ?_; intro a1 c1 w1 ho1 hg1)
 go_ret
 exact ⟨_, _, rfl, hE.grown hg1 (by simp) (fun b e => (ho.lt b e).1), ho1⟩
def putRow (U : Nat → Int) (p : Nat) (V : Nat → Int) : Nat → Int := fun q => if p * 12 ≤ q ∧ q < p * 12 + 12 then V (q - p * 12) else U q
theorem put12 {w4 : World} {base n g c p : Nat} {U : Nat → Int} (h : OwnL w4 base 41 12 (.slice (some ⟨g, 0, none⟩) n c) n U) (hp : p < n) (V : Nat → Int) :
 OwnL ((((((((((((w4.setCell ⟨g, p * 12, none⟩ (.int .i64 (V 0))).setCell ⟨g, p * 12 + 1, none⟩ (.int .i64 (V 1))).setCell ⟨g, p * 12 + 2, none⟩ (.int .i64 (V 2))).setCell ⟨g, p * 12 + 3, none⟩ (.int .i64 (V 3))).setCell ⟨g, p * 12 + 4, none⟩ (.int .i64 (V 4))).setCell ⟨g, p * 12 + 5, none⟩ (.int .i64 (V 5))).setCell ⟨g, p * 12 + 6, none⟩ (.int .i64 (V 6))).setCell ⟨g, p * 12 + 7, none⟩ (.int .i64 (V 7))).setCell ⟨g, p * 12 + 8, none⟩ (.int .i64 (V 8))).setCell ⟨g, p * 12 + 9, none⟩ (.int .i64 (V 9))).setCell ⟨g, p * 12 + 10, none⟩ (.int .i64 (V 10))).setCell ⟨g, p * 12 + 11, none⟩ (.int .i64 (V 11))) base 41 12 (.slice (some ⟨g, 0, none⟩) n c) n (putRow U p V) := by
 have q1 := h.setq (p * 12) (by omega) (V 0)
 have q2 := q1.setq (p * 12 + 1) (by omega) (V 1)
 have q3 := q2.setq (p * 12 + 2) (by omega) (V 2)
 have q4 := q3.setq (p * 12 + 3) (by omega) (V 3)
 have q5 := q4.setq (p * 12 + 4) (by omega) (V 4)
 have q6 := q5.setq (p * 12 + 5) (by omega) (V 5)
 have q7 := q6.setq (p * 12 + 6) (by omega) (V 6)
 have q8 := q7.setq (p * 12 + 7) (by omega) (V 7)
 have q9 := q8.setq (p * 12 + 8) (by omega) (V 8)
 have q10 := q9.setq (p * 12 + 9) (by omega) (V 9)
 have q11 := q10.setq (p * 12 + 10) (by omega) (V 10)
 have q12 := q11.setq (p * 12 + 11) (by omega) (V 11)
 refine q12.congr fun q _ => ?_
 unfold putRow
 by_cases e : p * 12 ≤ q ∧ q < p * 12 + 12
 · rw [if_pos e]
   obtain ⟨d, rfl⟩ : ∃ d, q = p * 12 + d := ⟨q - p * 12, by omega⟩
   rw [Nat.add_sub_cancel_left]
   rcases (show d = 0 ∨ d = 1 ∨ d = 2 ∨ d = 3 ∨ d = 4 ∨ d = 5 ∨ d = 6 ∨ d = 7 ∨ d = 8 ∨ d = 9 ∨ d = 10 ∨ d = 11 by omega) with rfl | rfl | rfl | rfl | rfl | rfl | rfl | rfl | rfl | rfl | rfl | rfl <;> simp
 · rw [if_neg e]
   repeat rw [if_neg (by omega)]
theorem putFr {w4 : World} {g p : Nat} (V : Nat → Int) : Fr (fun b => b = g) w4 ((((((((((((w4.setCell ⟨g, p * 12, none⟩ (.int .i64 (V 0))).setCell ⟨g, p * 12 + 1, none⟩ (.int .i64 (V 1))).setCell ⟨g, p * 12 + 2, none⟩ (.int .i64 (V 2))).setCell ⟨g, p * 12 + 3, none⟩ (.int .i64 (V 3))).setCell ⟨g, p * 12 + 4, none⟩ (.int .i64 (V 4))).setCell ⟨g, p * 12 + 5, none⟩ (.int .i64 (V 5))).setCell ⟨g, p * 12 + 6, none⟩ (.int .i64 (V 6))).setCell ⟨g, p * 12 + 7, none⟩ (.int .i64 (V 7))).setCell ⟨g, p * 12 + 8, none⟩ (.int .i64 (V 8))).setCell ⟨g, p * 12 + 9, none⟩ (.int .i64 (V 9))).setCell ⟨g, p * 12 + 10, none⟩ (.int .i64 (V 10))).setCell ⟨g, p * 12 + 11, none⟩ (.int .i64 (V 11))) :=
 (((((((((((((Fr.refl (fun b => b = g) w4).trans (Fr.setCell (X := fun b => b = g) rfl _)).trans (Fr.setCell (X := fun b => b = g) rfl _)).trans (Fr.setCell (X := fun b => b = g) rfl _)).trans (Fr.setCell (X := fun b => b = g) rfl _)).trans (Fr.setCell (X := fun b => b = g) rfl _)).trans (Fr.setCell (X := fun b => b = g) rfl _)).trans (Fr.setCell (X := fun b => b = g) rfl _)).trans (Fr.setCell (X := fun b => b = g) rfl _)).trans (Fr.setCell (X := fun b => b = g) rfl _)).trans (Fr.setCell (X := fun b => b = g) rfl _)).trans (Fr.setCell (X := fun b => b = g) rfl _)).trans (Fr.setCell (X := fun b => b = g) rfl _))
theorem OutL.on {w w1 w2 : World} {t k n c : Nat} {a : Option Addr} {R : Nat → Int} (h : OutL w w1 t k a n c R) (hb : Below w1.heap.size w1 w2) : OutL w w2 t k a n c R := ⟨h.bel.trans (hb.mono h.bel.size), h.own.below hb⟩
theorem l6Sleeps_k (V : Nat → Int) (w : World) (b : Bool) (e : decide (8 ≤ V 11) = b) :
 Calls Tryz.prog 160 #[bodyW V] w fun e w' => e = .returned (.bool b) ∧ Below w.heap.size w w' := by
 have hset := cset_map
 subst e
 go_enter Tryz.func160, Tryz.ntmps160
 go_wp2_with fail
 go_ret
 exact ⟨ret_bool (by simp), bel_a⟩
theorem l6Speed_any (V : Nat → Int) (w : World) (b6 : -20000000 ≤ V 6 ∧ V 6 ≤ 20000000) (b7 : -20000000 ≤ V 7 ∧ V 7 ≤ 20000000) :
 Calls Tryz.prog 164 #[bodyW V] w fun e w' => e = .returned (vv (spX V) (spY V)) ∧ Below w.heap.size w w' := by
 have t6 := tdiv_bd (x := V 6) (B := 20000000) (V 8) (by omega)
 have t7 := tdiv_bd (x := V 7) (B := 20000000) (V 8) (by omega)
 have e6 : IntKind.i64.wrap ((V 6).tdiv (V 8)) = (V 6).tdiv (V 8) := i64w (by omega)
 have e7 : IntKind.i64.wrap ((V 7).tdiv (V 8)) = (V 7).tdiv (V 8) := i64w (by omega)
 have hset := cset_map
 unfold spX spY
 by_cases m : V 8 = 0
 · rw [if_pos m, if_pos m]
   go_enter Tryz.func164, Tryz.ntmps164
   go_wp2_with fail
   exact bodyPost_ret (v := vv 0 0) (by simp [results, Tryz.results164, go_sem, *]) rfl ⟨rfl, bel_a⟩
 · rw [if_neg m, if_neg m]
   go_enter Tryz.func164, Tryz.ntmps164
   go_upto_region 3 with fail
   refine wp_region_held_drew (S := fun w' => w'.cell? ⟨w.heap.size, 0, none⟩ = some (.int .i64 (V 0)) ∧ w'.cell? ⟨w.heap.size, 1, none⟩ = some (.int .i64 (V 1)) ∧ w'.cell? ⟨w.heap.size, 2, none⟩ = some (.int .i64 (V 2)) ∧ w'.cell? ⟨w.heap.size, 3, none⟩ = some (.int .i64 (V 3)) ∧ w'.cell? ⟨w.heap.size, 4, none⟩ = some (.int .i64 (V 4)) ∧ w'.cell? ⟨w.heap.size, 5, none⟩ = some (.int .i64 (V 5)) ∧ w'.cell? ⟨w.heap.size, 6, none⟩ = some (.int .i64 (V 6)) ∧ w'.cell? ⟨w.heap.size, 7, none⟩ = some (.int .i64 (V 7)) ∧ w'.cell? ⟨w.heap.size, 8, none⟩ = some (.int .i64 (V 8)) ∧ w'.cell? ⟨w.heap.size, 9, none⟩ = some (.int .i64 (V 9)) ∧ w'.cell? ⟨w.heap.size, 10, none⟩ = some (.int .i64 (V 10)) ∧ w'.cell? ⟨w.heap.size, 11, none⟩ = some (.int .i64 (V 11))) (by kernel_rfl) ?_ (fun hHeld => ?_)
   · (try dsimp only)
     (first | (go_simp; done) | (go_keep; done))
   refine tq 0 hHeld ?_
   refine tq 1 hHeld ?_
   refine tq 2 hHeld ?_
   refine tq 3 hHeld ?_
   refine tq 4 hHeld ?_
   refine tq 5 hHeld ?_
   refine tq 6 hHeld ?_
   refine tq 7 hHeld ?_
   refine tq 8 hHeld ?_
   refine tq 9 hHeld ?_
   refine tq 10 hHeld ?_
   refine tq 11 hHeld ?_
   refine tq 12 hHeld ?_
   (refine tc 13 fun K hK => ?_; go_simp; refine tr hK (fun hHeld => ?_); clear hK K)
   refine wpAnyH_done (by kernel_rfl) ?_ _
   go_wp2_with fail
   exact bodyPost_ret (v := vv ((V 6).tdiv (V 8)) ((V 7).tdiv (V 8))) (by simp [results, Tryz.results164, go_sem, *]) rfl ⟨rfl, bel_a⟩
end Go.Proofs.YthijeiehcdoidaaGreat
