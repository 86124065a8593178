/- The library's stable sort, as far as numbers change places: swapRange. -/
import Derived.Test.YtcbgcochpflblaaB9
import Derived.Test.YtcbgcochpflblaaB1
import Derived.Deep.RegionHeld3
import Derived.Deep.DeepCutAuto
namespace Go.Proofs.Ytcbgcochpflblaa
open Go.RowKit
set_option linter.unusedVariables false
set_option linter.unusedSimpArgs false
/-- of one block nothing but a row has turned; of all older others nothing -/
structure Trn (lb off n : Nat) (w w' : World) : Prop where
  but : But lb w w'
  out : ∀ k, (k < off ∨ off + n ≤ k) → w'.cell? ⟨lb, k, none⟩ = w.cell? ⟨lb, k, none⟩
  frz : ∀ k, w'.frozen? ⟨lb, k, none⟩ = w.frozen? ⟨lb, k, none⟩
theorem Trn.refl (lb off n : Nat) (w : World) : Trn lb off n w w := ⟨But.refl _ _, fun _ _ => rfl, fun _ => rfl⟩
theorem Trn.trans {lb off n : Nat} {a b c : World} (h : Trn lb off n a b) (k : Trn lb off n b c) : Trn lb off n a c :=
  ⟨h.but.trans k.but, fun i hi => (k.out i hi).trans (h.out i hi), fun i => (k.frz i).trans (h.frz i)⟩
theorem Trn.drew {lb off n : Nat} {a b : World} (h : Trn lb off n a b) : Trn lb off n a b.drew :=
  ⟨⟨h.but.os, h.but.tape, h.but.output, h.but.size, h.but.block⟩, h.out, h.frz⟩
theorem Trn.set {lb off n : Nat} {a b : World} (h : Trn lb off n a b) (i : Nat) (hi : i < n) (v : Value) : Trn lb off n a (b.setCell ⟨lb, off + i, none⟩ v) := by
  refine ⟨h.but.setCell rfl v, fun k hk => ?_, fun k => ?_⟩
  · rw [cset_other (by intro q; injection q with q1 q2; omega)]; exact h.out k hk
  · rw [World.frozen?_setCell]; exact h.frz k
/-- what lays new blocks alone -/
theorem Trn.below {lb off n : Nat} {a b c : World} (h : Trn lb off n a b) (hlb : lb < a.heap.size) (k : Below b.heap.size b c) : Trn lb off n a c :=
  have hl : lb < b.heap.size := Nat.lt_of_lt_of_le hlb h.but.size
  ⟨h.but.trans (But.of_below k), fun i hi => (k.cell (p := ⟨lb, i, none⟩) hl).trans (h.out i hi), fun i => (k.frozen (p := ⟨lb, i, none⟩) hl).trans (h.frz i)⟩
theorem Trn.lt {lb off n : Nat} {a b : World} (h : Trn lb off n a b) {k : Nat} (hk : k < a.heap.size) : k < b.heap.size := Nat.lt_of_lt_of_le hk h.but.size
theorem Rwo.drew {w : World} {lb off n : Nat} {V : Nat → Int} (h : Rwo w lb off n V) : Rwo w.drew lb off n V := ⟨h.cell, h.free⟩
theorem Rwo.below {w w' : World} {lb off n : Nat} {V : Nat → Int} (h : Rwo w lb off n V) (hlb : lb < w.heap.size) (k : Below w.heap.size w w') : Rwo w' lb off n V :=
  ⟨fun i hi => (k.cell (p := ⟨lb, off + i, none⟩) hlb).trans (h.cell i hi), fun i hi => (k.frozen (p := ⟨lb, off + i, none⟩) hlb).trans (h.free i hi)⟩
/-- what the sort keeps: the same numbers, the row alone turned -/
structure Srt (lb off n : Nat) (V : Nat → Int) (w w' : World) : Prop where
  ex : ∃ U, Sw n V U ∧ Rwo w' lb off n U
  trn : Trn lb off n w w'
theorem Srt.refl {lb off n : Nat} {V : Nat → Int} {w : World} (h : Rwo w lb off n V) : Srt lb off n V w w := ⟨⟨V, Sw.refl _ _, h⟩, Trn.refl _ _ _ _⟩
theorem Srt.drew {lb off n : Nat} {V : Nat → Int} {w w' : World} (h : Srt lb off n V w w') : Srt lb off n V w w'.drew := by
  obtain ⟨⟨U, s, r⟩, t⟩ := h
  exact ⟨⟨U, s, r.drew⟩, t.drew⟩
theorem Srt.below {lb off n : Nat} {V : Nat → Int} {w w' w'' : World} (h : Srt lb off n V w w') (hlb : lb < w.heap.size) (k : Below w'.heap.size w' w'') : Srt lb off n V w w'' := by
  obtain ⟨⟨U, s, r⟩, t⟩ := h
  exact ⟨⟨U, s, r.below (t.lt hlb) k⟩, t.below hlb k⟩
theorem Srt.trans {lb off n : Nat} {V : Nat → Int} {w w' w'' : World} (h : Trn lb off n w w') {U : Nat → Int} (s : Sw n V U) (k : Srt lb off n U w' w'') : Srt lb off n V w w'' := by
  obtain ⟨⟨X, s2, r2⟩, t⟩ := k
  exact ⟨⟨X, s.trans s2, r2⟩, h.trans t⟩
theorem Srt.swp {lb off n : Nat} {V U : Nat → Int} {w w' : World} (hT : Trn lb off n w w') (hS : Sw n V U) (hR : Rwo w' lb off n U) {i j : Nat} (hi : i < n) (hj : j < n) :
    Srt lb off n V w ((w'.setCell ⟨lb, off + i, none⟩ (.int .i64 (U j))).setCell ⟨lb, off + j, none⟩ (.int .i64 (U i))) :=
  ⟨⟨_, hS.trans (Sw.swp U hi hj), hR.swp hi hj⟩, (hT.set i hi _).set j hj _⟩
set_option maxRecDepth 20000 in
set_option maxHeartbeats 1000000 in
theorem swapRange_any (lb off n cap a b c : Nat) (f : Value) (V : Nat → Int) (w : World) (h : Rwo w lb off n V) (ha : a + c ≤ n) (hb : b + c ≤ n) (hn : n ≤ 1000) (hne : a + c ≤ b ∨ b + c ≤ a) :
    Calls Try.prog 88 #[.slice (some ⟨lb, off, none⟩) n cap, .int .i64 a, .int .i64 b, .int .i64 c, f] w fun e w' => e = .returned (.tuple #[]) ∧ Srt lb off n V w w' := by
  go_enter Try.func88, Try.ntmps88
  go_wp2
  go_loopw [10] (fun i wr => ∃ (k : Nat), k ≤ c ∧ i = .int .i64 (k : Int) ∧ Srt lb off n V w wr) (fun i _ => c - (RowKit.intOf i).toNat)
  case atStart => exact ⟨0, Nat.zero_le _, rfl, Srt.refl h⟩
  case round =>
    obtain ⟨k, hk, rfl, hSR⟩ := hrel
    by_cases hlt : k < c
    · obtain ⟨⟨U, hS, hR⟩, hT⟩ := hSR
      have hlt' : (k : Int) < (c : Int) := by omega
      obtain ⟨x, hx⟩ : ∃ x : Nat, a + k = x := ⟨_, rfl⟩
      obtain ⟨y, hy⟩ : ∃ y : Nat, b + k = y := ⟨_, rfl⟩
      have wa : IntKind.i64.wrap ((a : Int) + (k : Int)) = (x : Int) := by rw [i64w (by omega)]; omega
      have wb : IntKind.i64.wrap ((b : Int) + (k : Int)) = (y : Int) := by rw [i64w (by omega)]; omega
      have i1 : (x : Int) < (n : Int) := by omega
      have i2 : (y : Int) < (n : Int) := by omega
      have HS2 := (Srt.swp hT hS hR (i := x) (j := y) (by omega) (by omega)).drew
      have ca : wr.cell? ⟨lb, off + x, none⟩ = some (.int .i64 (U x)) := hR.cell x (by omega)
      have cb : wr.cell? ⟨lb, off + y, none⟩ = some (.int .i64 (U y)) := hR.cell y (by omega)
      have fa : wr.frozen? ⟨lb, off + x, none⟩ = false := hR.free x (by omega)
      have fb : wr.frozen? ⟨lb, off + y, none⟩ = false := hR.free y (by omega)
      have cc : ∀ v, (wr.setCell ⟨lb, off + x, none⟩ v).cell? ⟨lb, off + y, none⟩ = some (.int .i64 (U y)) := fun v => by rw [cset_other (by intro q; injection q with q1 q2; omega)]; exact cb
      go_upto_region 3 with fail
      refine wp_region_held_drew (S := fun _ => True) (by kernel_rfl) trivial (fun hHeld => ?_)
      refine tq 0 hHeld ?_
      refine tq 1 hHeld ?_
      refine tq 2 hHeld ?_
      refine tq 3 hHeld ?_
      refine tq 4 hHeld ?_
      refine tq 5 hHeld ?_
      refine tq 6 hHeld ?_
      refine tq 7 hHeld ?_
      refine tq 8 hHeld ?_
      refine tq 9 hHeld ?_
      refine tq 10 hHeld ?_
      refine tq 11 hHeld ?_
      refine tq 12 hHeld ?_
      refine tq 14 hHeld ?_
      refine tq 15 hHeld ?_
      refine tq 16 hHeld ?_
      refine tq 17 hHeld ?_
      refine tq 18 hHeld ?_
      refine wpAnyH_ready (rs := [13, 19]) (by kernel_rfl) (by simp) ?_
      refine AllReadyH.cons rfl (fun K hK => ?_) (AllReadyH.cons rfl (fun K hK => ?_) AllReadyH.nil)
      · (go_simp; refine tr hK (fun hHeld => ?_) trivial; clear hK K)
        refine tc 19 fun K hK => ?_
        (go_simp; refine tr hK (fun hHeld => ?_) trivial; clear hK K)
        refine tq 20 hHeld ?_
        refine tc 21 fun K hK => ?_
        (go_simp; refine tr hK (fun hHeld => ?_) trivial; clear hK K)
        refine tq 22 hHeld ?_
        refine tc 23 fun K hK => ?_
        (go_simp; refine tr hK (fun hHeld => ?_) trivial; clear hK K)
        refine wpAnyH_done (by kernel_rfl) ?_ _
        go_wp2
        go_roundw
        case rel => exact ⟨k + 1, by omega, by go_num, HS2⟩
        case measure => simp [RowKit.intOf]; omega
      · (go_simp; refine tr hK (fun hHeld => ?_) trivial; clear hK K)
        refine tc 13 fun K hK => ?_
        (go_simp; refine tr hK (fun hHeld => ?_) trivial; clear hK K)
        refine tq 20 hHeld ?_
        refine tc 21 fun K hK => ?_
        (go_simp; refine tr hK (fun hHeld => ?_) trivial; clear hK K)
        refine tq 22 hHeld ?_
        refine tc 23 fun K hK => ?_
        (go_simp; refine tr hK (fun hHeld => ?_) trivial; clear hK K)
        refine wpAnyH_done (by kernel_rfl) ?_ _
        go_wp2
        go_roundw
        case rel => exact ⟨k + 1, by omega, by go_num, HS2⟩
        case measure => simp [RowKit.intOf]; omega
    · have hlt' : ¬ ((k : Int) < (c : Int)) := by omega
      go_wp2
      go_end0
      exact ⟨rfl, hSR⟩
end Go.Proofs.Ytcbgcochpflblaa
