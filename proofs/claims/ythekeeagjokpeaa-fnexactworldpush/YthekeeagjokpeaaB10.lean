/- Worlds in memory of their own, marked and held. The exact law of WorldOk, walked. What may not be is 0. The contracts of the specification's BoxBoth and BoxNear. A body that is pushed, by the specification; two bodies that are the same. A body of a world is pushed: both sides. A body of a world is pushed, by the specification. -/
import Derived.Test.YthekeeagjokpeaaB9
import Derived.Deep.RegionHeld3
import Derived.Deep.DeepCutAuto
import Derived.Test.YthekeeagjokpeaaB8
import Derived.Test.YthekeeagjokpeaaB2
import Derived.Deep.QuietTactic
import Derived.BigQuiet
import Derived.Deep.RegionWith
import Derived.Test.YthekeeagjokpeaaB5
namespace Go.Proofs.Ythekeeagjokpeaa
open Go.RowKit
set_option linter.unusedVariables false
set_option linter.unusedSimpArgs false
set_option maxRecDepth 20000 in
set_option maxHeartbeats 2000000 in
theorem heldBodyS_from (sf : Int) (hs0 : 0 ≤ sf) (hs1 : sf ≤ 1099511627776) (a : Option Addr) (n c : Nat) (w : World) (h : Flat w a (n * 12) (fun q => sf + (q : Int))) (hn : n ≤ 2097152) :
    Calls Try.prog 34 #[.slice a n c, .int .i64 sf] w fun e w' => e = .returned (.int .i64 (sf + (n : Int) * 12)) ∧ w' = w := by
  go_enter Try.func34, Try.ntmps34
  go_wp2
  go_loop [1, 5] (fun s i => ∃ j : Nat, j ≤ n ∧ i = .int .i64 (j : Int) ∧ s = .int .i64 (sf + (j : Int) * 12)) (fun _ i => n - (intOf i).toNat)
  case atStart => exact ⟨0, Nat.zero_le _, rfl, congrArg (Value.int .i64) (by omega)⟩
  case round =>
    obtain ⟨j, hj, rfl, rfl⟩ := hrel
    by_cases hlt : j < n
    · have hjn : (j : Int) < (n : Int) := by omega
      obtain ⟨b, o, rfl, hbl, hc⟩ := h (by omega)
      have c0 : w.cell? ⟨b, o + j * 12, none⟩ = some (.int .i64 (sf + (j : Int) * 12)) := (hc (j * 12) (by omega)).trans (congrArg (fun z => some (Value.int .i64 z)) (show sf + ((j * 12 : Nat) : Int) = sf + (j : Int) * 12 by omega))
      have c1 : w.cell? ⟨b, o + j * 12 + 1, none⟩ = some (.int .i64 (sf + (j : Int) * 12 + 1)) := (hc (j * 12 + 1) (by omega)).trans (congrArg (fun z => some (Value.int .i64 z)) (show sf + ((j * 12 + 1 : Nat) : Int) = sf + (j : Int) * 12 + 1 by omega))
      have c2 : w.cell? ⟨b, o + j * 12 + 2, none⟩ = some (.int .i64 (sf + (j : Int) * 12 + 1 + 1)) := (hc (j * 12 + 2) (by omega)).trans (congrArg (fun z => some (Value.int .i64 z)) (show sf + ((j * 12 + 2 : Nat) : Int) = sf + (j : Int) * 12 + 1 + 1 by omega))
      have c3 : w.cell? ⟨b, o + j * 12 + 3, none⟩ = some (.int .i64 (sf + (j : Int) * 12 + 1 + 1 + 1)) := (hc (j * 12 + 3) (by omega)).trans (congrArg (fun z => some (Value.int .i64 z)) (show sf + ((j * 12 + 3 : Nat) : Int) = sf + (j : Int) * 12 + 1 + 1 + 1 by omega))
      have c4 : w.cell? ⟨b, o + j * 12 + 4, none⟩ = some (.int .i64 (sf + (j : Int) * 12 + 1 + 1 + 1 + 1)) := (hc (j * 12 + 4) (by omega)).trans (congrArg (fun z => some (Value.int .i64 z)) (show sf + ((j * 12 + 4 : Nat) : Int) = sf + (j : Int) * 12 + 1 + 1 + 1 + 1 by omega))
      have c5 : w.cell? ⟨b, o + j * 12 + 5, none⟩ = some (.int .i64 (sf + (j : Int) * 12 + 1 + 1 + 1 + 1 + 1)) := (hc (j * 12 + 5) (by omega)).trans (congrArg (fun z => some (Value.int .i64 z)) (show sf + ((j * 12 + 5 : Nat) : Int) = sf + (j : Int) * 12 + 1 + 1 + 1 + 1 + 1 by omega))
      have c6 : w.cell? ⟨b, o + j * 12 + 6, none⟩ = some (.int .i64 (sf + (j : Int) * 12 + 1 + 1 + 1 + 1 + 1 + 1)) := (hc (j * 12 + 6) (by omega)).trans (congrArg (fun z => some (Value.int .i64 z)) (show sf + ((j * 12 + 6 : Nat) : Int) = sf + (j : Int) * 12 + 1 + 1 + 1 + 1 + 1 + 1 by omega))
      have c7 : w.cell? ⟨b, o + j * 12 + 7, none⟩ = some (.int .i64 (sf + (j : Int) * 12 + 1 + 1 + 1 + 1 + 1 + 1 + 1)) := (hc (j * 12 + 7) (by omega)).trans (congrArg (fun z => some (Value.int .i64 z)) (show sf + ((j * 12 + 7 : Nat) : Int) = sf + (j : Int) * 12 + 1 + 1 + 1 + 1 + 1 + 1 + 1 by omega))
      have c8 : w.cell? ⟨b, o + j * 12 + 8, none⟩ = some (.int .i64 (sf + (j : Int) * 12 + 1 + 1 + 1 + 1 + 1 + 1 + 1 + 1)) := (hc (j * 12 + 8) (by omega)).trans (congrArg (fun z => some (Value.int .i64 z)) (show sf + ((j * 12 + 8 : Nat) : Int) = sf + (j : Int) * 12 + 1 + 1 + 1 + 1 + 1 + 1 + 1 + 1 by omega))
      have c9 : w.cell? ⟨b, o + j * 12 + 9, none⟩ = some (.int .i64 (sf + (j : Int) * 12 + 1 + 1 + 1 + 1 + 1 + 1 + 1 + 1 + 1)) := (hc (j * 12 + 9) (by omega)).trans (congrArg (fun z => some (Value.int .i64 z)) (show sf + ((j * 12 + 9 : Nat) : Int) = sf + (j : Int) * 12 + 1 + 1 + 1 + 1 + 1 + 1 + 1 + 1 + 1 by omega))
      have c10 : w.cell? ⟨b, o + j * 12 + 10, none⟩ = some (.int .i64 (sf + (j : Int) * 12 + 1 + 1 + 1 + 1 + 1 + 1 + 1 + 1 + 1 + 1)) := (hc (j * 12 + 10) (by omega)).trans (congrArg (fun z => some (Value.int .i64 z)) (show sf + ((j * 12 + 10 : Nat) : Int) = sf + (j : Int) * 12 + 1 + 1 + 1 + 1 + 1 + 1 + 1 + 1 + 1 + 1 by omega))
      have c11 : w.cell? ⟨b, o + j * 12 + 11, none⟩ = some (.int .i64 (sf + (j : Int) * 12 + 1 + 1 + 1 + 1 + 1 + 1 + 1 + 1 + 1 + 1 + 1)) := (hc (j * 12 + 11) (by omega)).trans (congrArg (fun z => some (Value.int .i64 z)) (show sf + ((j * 12 + 11 : Nat) : Int) = sf + (j : Int) * 12 + 1 + 1 + 1 + 1 + 1 + 1 + 1 + 1 + 1 + 1 + 1 by omega))
      clear hc h
      go_wp2
      go_round
      case rel => exact ⟨j + 1, by omega, by go_num, congrArg (Value.int .i64) (by omega)⟩
      case measure => simp [intOf]; omega
    · obtain rfl : j = n := by omega
      go_wp2
      go_ret
      exact ⟨rfl, rfl⟩
set_option maxRecDepth 20000 in
set_option maxHeartbeats 2000000 in
theorem heldPairS_from (sf : Int) (hs0 : 0 ≤ sf) (hs1 : sf ≤ 1099511627776) (a : Option Addr) (n c : Nat) (w : World) (h : Flat w a (n * 2) (fun q => sf + (q : Int))) (hn : n ≤ 2097152) :
    Calls Try.prog 35 #[.slice a n c, .int .i64 sf] w fun e w' => e = .returned (.int .i64 (sf + (n : Int) * 2)) ∧ w' = w := by
  go_enter Try.func35, Try.ntmps35
  go_wp2
  go_loop [1, 5] (fun s i => ∃ j : Nat, j ≤ n ∧ i = .int .i64 (j : Int) ∧ s = .int .i64 (sf + (j : Int) * 2)) (fun _ i => n - (intOf i).toNat)
  case atStart => exact ⟨0, Nat.zero_le _, rfl, congrArg (Value.int .i64) (by omega)⟩
  case round =>
    obtain ⟨j, hj, rfl, rfl⟩ := hrel
    by_cases hlt : j < n
    · have hjn : (j : Int) < (n : Int) := by omega
      obtain ⟨b, o, rfl, hbl, hc⟩ := h (by omega)
      have c0 : w.cell? ⟨b, o + j * 2, none⟩ = some (.int .i64 (sf + (j : Int) * 2)) := (hc (j * 2) (by omega)).trans (congrArg (fun z => some (Value.int .i64 z)) (show sf + ((j * 2 : Nat) : Int) = sf + (j : Int) * 2 by omega))
      have c1 : w.cell? ⟨b, o + j * 2 + 1, none⟩ = some (.int .i64 (sf + (j : Int) * 2 + 1)) := (hc (j * 2 + 1) (by omega)).trans (congrArg (fun z => some (Value.int .i64 z)) (show sf + ((j * 2 + 1 : Nat) : Int) = sf + (j : Int) * 2 + 1 by omega))
      clear hc h
      go_wp2
      go_round
      case rel => exact ⟨j + 1, by omega, by go_num, congrArg (Value.int .i64) (by omega)⟩
      case measure => simp [intOf]; omega
    · obtain rfl : j = n := by omega
      go_wp2
      go_ret
      exact ⟨rfl, rfl⟩

def ownX (a1 : Option Addr) (n c1 : Nat) (a2 : Option Addr) (m c2 : Nat) (x : Nat) : Prop := (Value.slice a1 n c1).ownBlock = some x ∨ (Value.slice a2 m c2).ownBlock = some x
set_option maxRecDepth 20000 in
set_option maxHeartbeats 2000000 in
theorem markWorld_own (T P : Int) (base : Nat) (a1 : Option Addr) (n c1 : Nat) (U : Nat → Int) (a2 : Option Addr) (m c2 : Nat) (Q : Nat → Int) (w : World) (ob : OwnL w base 43 12 (.slice a1 n c1) n U) (op : OwnL w base 73 2 (.slice a2 m c2) m Q) (hn : n ≤ 1048576) (hm : m ≤ 1048576) :
    Calls Try.prog 11 #[worldW T P a1 n c1 a2 m c2, .int .i64 1] w fun e w' => e = .returned (.int .i64 (1 + (n : Int) * 12 + (m : Int) * 2)) ∧ Fr (ownX a1 n c1 a2 m c2) w w' ∧ OwnL w' base 43 12 (.slice a1 n c1) n (fun q => 1 + (q : Int)) ∧ OwnL w' base 73 2 (.slice a2 m c2) m (fun q => 1 + (n : Int) * 12 + (q : Int)) := by
  have hset := cset_map
  have hE : Below w.heap.size w (w.alloc (Obj.cells #[.int .i64 T, .int .i64 P, .slice a1 n c1, .slice a2 m c2] 36)) := (Below.refl _ _).alloc (Nat.le_refl _) _
  have hne := ob.neT op (by decide)
  have l1 := ob.lt
  have l2 := op.lt
  have o1 := ob.below hE
  have o2 := op.below hE
  have nw : ¬ ownX a1 n c1 a2 m c2 w.heap.size := fun x => by rcases x with x | x; exact absurd (l1 _ x).2 (by omega); exact absurd (l2 _ x).2 (by omega)
  go_enter Try.func11, Try.ntmps11
  go_wp2_with (first
    | (go_at_call 32; refine (markBodyS_from 1 (by omega) (by omega) base _ n _ U _ o1 (by omega)).mono ?_; rintro e w1 ⟨rfl, ho1, hg1⟩; have hF1 := Fr.grown (X := ownX a1 n c1 a2 m c2) hg1 (fun x hx => .inl hx) o1.isCells; have k3 : w1.cell? ⟨w.heap.size, 3, none⟩ = some (.slice a2 m c2) := (hF1.cell (p := ⟨w.heap.size, 3, none⟩) (by simp) nw).trans (by go_simp); have k2 : w1.cell? ⟨w.heap.size, 2, none⟩ = some (.slice a1 n c1) := (hF1.cell (p := ⟨w.heap.size, 2, none⟩) (by simp) nw).trans (by go_simp); have o2' := o2.frame (X := fun x => (Value.slice a1 n c1).ownBlock = some x) (Fr.grown hg1 (fun x hx => hx) o1.isCells) (fun b e x => hne b x e))
    | (go_at_call 33; refine (markPairS_from _ (by omega) (by omega) base _ m _ Q _ o2' (by omega)).mono ?_; rintro e w2 ⟨rfl, ho2, hg2⟩))
  go_ret
  exact ⟨rfl, ((Fr.of_below hE).trans hF1).trans (Fr.grown hg2 (fun x hx => .inr hx) o2'.isCells), ho1.frame (X := fun x => (Value.slice a2 m c2).ownBlock = some x) (Fr.grown hg2 (fun x hx => hx) o2'.isCells) (fun b e x => hne b e x), ho2⟩
set_option maxRecDepth 20000 in
set_option maxHeartbeats 2000000 in
theorem heldWorld_own (T P : Int) (a1 : Option Addr) (n c1 : Nat) (a2 : Option Addr) (m c2 : Nat) (w : World) (ob : Flat w a1 (n * 12) (fun q => 1 + (q : Int))) (op : Flat w a2 (m * 2) (fun q => 1 + (n : Int) * 12 + (q : Int))) (hn : n ≤ 1048576) (hm : m ≤ 1048576) :
    Calls Try.prog 12 #[worldW T P a1 n c1 a2 m c2, .int .i64 1] w fun e w' => e = .returned (.int .i64 (1 + (n : Int) * 12 + (m : Int) * 2)) ∧ Below w.heap.size w w' := by
  have hset := cset_map
  have hE : Below w.heap.size w (w.alloc (Obj.cells #[.int .i64 T, .int .i64 P, .slice a1 n c1, .slice a2 m c2] 36)) := (Below.refl _ _).alloc (Nat.le_refl _) _
  have n1 : ¬ (1 + (n : Int) * 12 < 0) := by omega
  have n2 : ¬ (1 + (n : Int) * 12 + (m : Int) * 2 < 0) := by omega
  go_enter Try.func12, Try.ntmps12
  go_wp2_with (first
    | (go_at_call 34; refine (heldBodyS_from 1 (by omega) (by omega) _ n _ _ (ob.below hE) (by omega)).mono ?_; rintro e w1 ⟨rfl, rfl⟩)
    | (go_at_call 35; refine (heldPairS_from _ (by omega) (by omega) _ m _ _ (op.below hE) (by omega)).mono ?_; rintro e w2 ⟨rfl, rfl⟩))
  go_ret
  exact ⟨rfl, hE⟩
theorem Vw.xlt {wc : World} {lo hi bx : Nat} {T P : Int} {a1 : Option Addr} {n c1 : Nat} {U : Nat → Int} {a2 : Option Addr} {m c2 : Nat} {Q : Nat → Int} (h : Vw wc lo hi bx T P a1 n c1 U a2 m c2 Q) : ∀ b, ownX a1 n c1 a2 m c2 b → lo ≤ b ∧ b < hi ∧ b ≠ bx := fun b x => by
  rcases x with x | x
  · exact ⟨(h.ob.lt b x).1, (h.t1 b x).1, (h.t1 b x).2⟩
  · exact ⟨(h.op.lt b x).1, (h.t2 b x).1, (h.t2 b x).2⟩
theorem Vw.mark {wc : World} {lo hi bx : Nat} {T P : Int} {a1 : Option Addr} {n c1 : Nat} {U : Nat → Int} {a2 : Option Addr} {m c2 : Nat} {Q : Nat → Int} {w' : World} {U' Q' : Nat → Int} (h : Vw wc lo hi bx T P a1 n c1 U a2 m c2 Q) (hs : Fr (ownX a1 n c1 a2 m c2) wc w') (o1 : OwnL w' lo 43 12 (.slice a1 n c1) n U') (o2 : OwnL w' lo 73 2 (.slice a2 m c2) m Q') : Vw w' lo hi bx T P a1 n c1 U' a2 m c2 Q' := by
  have nb : ¬ ownX a1 n c1 a2 m c2 bx := fun x => (h.xlt _ x).2.2 rfl
  have k := fun o => hs.cell (p := ⟨bx, o, none⟩) h.blt nb
  exact ⟨(k 0).trans h.c0, (k 1).trans h.c1, (k 2).trans h.c2, (k 3).trans h.c3, fun o => (hs.frozen (p := ⟨bx, o, none⟩) h.blt nb).trans (h.nf o), h.bl, h.bh, Nat.le_trans h.le hs.size, o1, o2, h.t1, h.t2⟩
/-- a variable for a world, empty -/
structure Bx0 (w : World) (lo bx : Nat) : Prop where
  c0 : w.cell? ⟨bx, 0, none⟩ = some (.int .i64 0)
  c1 : w.cell? ⟨bx, 1, none⟩ = some (.int .i64 0)
  c2 : w.cell? ⟨bx, 2, none⟩ = some (.slice none 0 0)
  c3 : w.cell? ⟨bx, 3, none⟩ = some (.slice none 0 0)
  nf : ∀ o, w.frozen? ⟨bx, o, none⟩ = false
  bl : lo ≤ bx
  lt : bx < w.heap.size
theorem Bx0.on {w w' : World} {lo bx : Nat} (h : Bx0 w lo bx) (hb : Below w.heap.size w w') : Bx0 w' lo bx :=
  ⟨(hb.cell (p := ⟨bx, 0, none⟩) h.lt).trans h.c0, (hb.cell (p := ⟨bx, 1, none⟩) h.lt).trans h.c1, (hb.cell (p := ⟨bx, 2, none⟩) h.lt).trans h.c2, (hb.cell (p := ⟨bx, 3, none⟩) h.lt).trans h.c3, fun o => (hb.frozen (p := ⟨bx, o, none⟩) h.lt).trans (h.nf o), h.bl, Nat.lt_of_lt_of_le h.lt hb.size⟩
theorem Bx0.new (w : World) (lo : Nat) (hl : lo ≤ w.heap.size) : Bx0 (w.alloc (Obj.cells #[.int .i64 0, .int .i64 0, .slice none 0 0, .slice none 0 0] 36)) lo w.heap.size := ⟨by go_simp, by go_simp, by go_simp, by go_simp, fun o => by go_simp, hl, by simp⟩
theorem Bx0.drew {w : World} {lo bx : Nat} (h : Bx0 w lo bx) : Bx0 w.drew lo bx := h.on (Below.drew (Below.refl _ _))
theorem setFr4 (wb : World) (bx : Nat) (v0 v1 v2 v3 : Value) : Fr (fun b => b = bx) wb ((((wb.setCell ⟨bx, 0, none⟩ v0).setCell ⟨bx, 1, none⟩ v1).setCell ⟨bx, 2, none⟩ v2).setCell ⟨bx, 3, none⟩ v3) :=
  (((Fr.setCell (X := fun b => b = bx) rfl _).trans (Fr.setCell (X := fun b => b = bx) rfl _)).trans (Fr.setCell (X := fun b => b = bx) rfl _)).trans (Fr.setCell (X := fun b => b = bx) rfl _)
theorem Vw.put {wb : World} {lo bx : Nat} {T P : Int} {a1 a2 : Option Addr} {n c1 m c2 : Nat} {U Q : Nat → Int} (ob : OwnL wb lo 43 12 (.slice a1 n c1) n U) (op : OwnL wb lo 73 2 (.slice a2 m c2) m Q) (hx : Bx0 wb lo bx)
    (n1 : ∀ b, ownX a1 n c1 a2 m c2 b → b ≠ bx) : Vw ((((wb.setCell ⟨bx, 0, none⟩ (.int .i64 T)).setCell ⟨bx, 1, none⟩ (.int .i64 P)).setCell ⟨bx, 2, none⟩ (.slice a1 n c1)).setCell ⟨bx, 3, none⟩ (.slice a2 m c2)) lo wb.heap.size bx T P a1 n c1 U a2 m c2 Q := by
  have hset := cset_map
  have z0 := hx.c0
  have z1 := hx.c1
  have z2 := hx.c2
  have z3 := hx.c3
  have nf := hx.nf
  have hs := setFr4 wb bx (.int .i64 T) (.int .i64 P) (.slice a1 n c1) (.slice a2 m c2)
  refine ⟨by go_simp, by go_simp, by go_simp, by go_simp, fun o => by go_simp, hx.bl, hx.lt, hs.size, ob.frame hs (fun b e x => n1 b (.inl e) x), op.frame hs (fun b e x => n1 b (.inr e) x), fun b e => ⟨(ob.lt b e).2, n1 b (.inl e)⟩, fun b e => ⟨(op.lt b e).2, n1 b (.inr e)⟩⟩
theorem Vw.rows {w0 w2 : World} {T P : Int} {n m b d : Nat} {U Q : Nat → Int} (hr : Row w2 b 43 (n * 12) U) (hq : Row w2 d 73 (m * 2) Q) (hb : w0.heap.size ≤ b) (hd : w0.heap.size ≤ d) (hn : n ≤ 1048576) (hm : m ≤ 1048576) (hb2 : Below w0.heap.size w0 w2) :
    OutW w0 w2 (some ⟨b, 0, none⟩) n n U (some ⟨d, 0, none⟩) m m Q :=
  ⟨hb2, hr.own hb (by unfold maxLen; omega), hq.own hd (by unfold maxLen; omega), (hr.own hb (by unfold maxLen; omega)).neT (hq.own hd (by unfold maxLen; omega)) (by decide)⟩
end Go.Proofs.Ythekeeagjokpeaa
namespace Go.Proofs.Ythekeeagjokpeaa
open Go.RowKit
set_option linter.unusedVariables false
set_option linter.unusedSimpArgs false

/-- a world of the program's own, in a variable at bx -/
structure Xw (wc : World) (bx : Nat) (T P : Int) (n m b d : Nat) (U Q : Nat → Int) : Prop where
  c0 : wc.cell? ⟨bx, 0, none⟩ = some (.int .i64 T)
  c1 : wc.cell? ⟨bx, 1, none⟩ = some (.int .i64 P)
  c2 : wc.cell? ⟨bx, 2, none⟩ = some (.slice (some ⟨b, 0, none⟩) n n)
  c3 : wc.cell? ⟨bx, 3, none⟩ = some (.slice (some ⟨d, 0, none⟩) m m)
  lt : bx < wc.heap.size
  hr : Row wc b 43 (n * 12) U
  hq : Row wc d 73 (m * 2) Q
theorem Xw.on {wc w' : World} {bx n m b d : Nat} {T P : Int} {U Q : Nat → Int} (h : Xw wc bx T P n m b d U Q) (hb : Below wc.heap.size wc w') : Xw w' bx T P n m b d U Q :=
  ⟨(hb.cell (p := ⟨bx, 0, none⟩) h.lt).trans h.c0, (hb.cell (p := ⟨bx, 1, none⟩) h.lt).trans h.c1, (hb.cell (p := ⟨bx, 2, none⟩) h.lt).trans h.c2, (hb.cell (p := ⟨bx, 3, none⟩) h.lt).trans h.c3, Nat.lt_of_lt_of_le h.lt hb.size, h.hr.below hb, h.hq.below hb⟩
end Go.Proofs.Ythekeeagjokpeaa
namespace Go.Proofs.Ythekeeagjokpeaa
open Go.RowKit
set_option linter.unusedVariables false
set_option linter.unusedSimpArgs false

/-- a number, or 0 where it may not be -/
def bb (o : Bool) (x : Int) : Int := if o = true then x else 0
theorem bb_t (x : Int) : bb true x = x := rfl
theorem bb_f (x : Int) : bb false x = 0 := rfl

end Go.Proofs.Ythekeeagjokpeaa
namespace Go.Proofs.Ythekeeagjokpeaa
open Go.RowKit
set_option linter.unusedVariables false
set_option linter.unusedSimpArgs false

theorem l3Less_any (x y : Int) (w : World) :
    Calls Try.prog 77 #[.int .i64 x, .int .i64 y] w fun e w' => e = .returned (.int .i64 (mn x y)) ∧ w' = w := by
  go_enter Try.func77, Try.ntmps77
  go_wp2
  all_goals
    go_ret
    refine ⟨?_, rfl⟩
    unfold mn
    split <;> first | rfl | (exfalso; omega) | (have hxy : x = y := (by omega); subst hxy; rfl) | (exfalso; simp at *; omega)

theorem l3More_any (x y : Int) (w : World) :
    Calls Try.prog 78 #[.int .i64 x, .int .i64 y] w fun e w' => e = .returned (.int .i64 (mx x y)) ∧ w' = w := by
  go_enter Try.func78, Try.ntmps78
  go_wp2
  all_goals
    go_ret
    refine ⟨?_, rfl⟩
    unfold mx
    split <;> first | rfl | (exfalso; omega) | (have hxy : x = y := (by omega); subst hxy; rfl) | (exfalso; simp at *; omega)

end Go.Proofs.Ythekeeagjokpeaa
namespace Go.Proofs.Ythekeeagjokpeaa
open Go.RowKit
set_option linter.unusedVariables false
set_option linter.unusedSimpArgs false

theorem mnmx (n m : Int) (h : 0 ≤ m) : mn (mx n (-m)) m = clampZ m n := by unfold mn mx clampZ; repeat (first | omega | split)
theorem l6Within_any (n m : Int) (w : World) (h0 : 0 ≤ m) (h1 : m ≤ 4000000000) :
    Calls Try.prog 60 #[.int .i64 n, .int .i64 m] w fun e w' => e = .returned (.int .i64 (clampZ m n)) ∧ w' = w := by
  go_enter Try.func60, Try.ntmps60
  go_wp2_with (first
    | (go_at_call 77; refine (l3Less_any _ _ _).mono ?_; rintro e w' ⟨rfl, rfl⟩)
    | (go_at_call 78; refine (l3More_any _ _ _).mono ?_; rintro e w' ⟨rfl, rfl⟩))
  go_ret
  exact ⟨ret_int (mnmx n m h0), rfl⟩
structure PB (w wx : World) (U : Nat → Int) (p q : Int) : Prop where
  inn : ∀ j, j < 12 → wx.cell? ⟨w.heap.size, j, none⟩ = some (.int .i64 (U j))
  v0 : wx.cell? ⟨w.heap.size + 1, 0, none⟩ = some (.int .i64 p)
  v1 : wx.cell? ⟨w.heap.size + 1, 1, none⟩ = some (.int .i64 q)
  res : ∀ j, j < 12 → wx.cell? ⟨w.heap.size + 1 + 1, j, none⟩ = some (.int .i64 0)
  nfi : ∀ j, j < 12 → wx.frozen? ⟨w.heap.size, j, none⟩ = false
  nfr : ∀ j, j < 12 → wx.frozen? ⟨w.heap.size + 1 + 1, j, none⟩ = false
  bel : Below w.heap.size w wx
  big : w.heap.size + 1 + 1 < wx.heap.size
theorem PB.drew {w wx : World} {U : Nat → Int} {p q : Int} (h : PB w wx U p q) : PB w wx.drew U p q := ⟨h.inn, h.v0, h.v1, h.res, h.nfi, h.nfr, h.bel.drew, h.big⟩
theorem PB.set {w wx : World} {U : Nat → Int} {p q : Int} (h : PB w wx U p q) {k : Nat} (hk : k < 12) (a : Int) : PB w (wx.setCell ⟨w.heap.size, k, none⟩ (.int .i64 a)) (setV U k a) p q := by
  refine ⟨fun j hj => ?_, ?_, ?_, fun j hj => ?_, fun j hj => ?_, fun j hj => ?_, ?_, ?_⟩
  · by_cases e : j = k
    · subst e; rw [cset_same (h.inn j hj)]; simp [setV]
    · rw [cset_other (by intro x; injection x with x1 x2; exact e x2.symm), h.inn j hj]; simp [setV, e]
  · rw [cset_far (by simp)]; exact h.v0
  · rw [cset_far (by simp)]; exact h.v1
  · rw [cset_far (by simp; omega)]; exact h.res j hj
  · rw [World.frozen?_setCell]; exact h.nfi j hj
  · rw [World.frozen?_setCell]; exact h.nfr j hj
  · exact h.bel.setCell (by simp) _
  · simpa using h.big
theorem PB.start (w : World) (V : Nat → Int) (p q : Int) : PB w (((w.alloc (.cells #[.int .i64 (V 0), .int .i64 (V 1), .int .i64 (V 2), .int .i64 (V 3), .int .i64 (V 4), .int .i64 (V 5), .int .i64 (V 6), .int .i64 (V 7), .int .i64 (V 8), .int .i64 (V 9), .int .i64 (V 10), .int .i64 (V 11)] 43)).alloc (.cells #[.int .i64 p, .int .i64 q] 41)).alloc (.cells #[.int .i64 0, .int .i64 0, .int .i64 0, .int .i64 0, .int .i64 0, .int .i64 0, .int .i64 0, .int .i64 0, .int .i64 0, .int .i64 0, .int .i64 0, .int .i64 0] 43)) V p q := ⟨(fun j hj => by (rcases (show j = 0 ∨ j = 1 ∨ j = 2 ∨ j = 3 ∨ j = 4 ∨ j = 5 ∨ j = 6 ∨ j = 7 ∨ j = 8 ∨ j = 9 ∨ j = 10 ∨ j = 11 by omega) with rfl | rfl | rfl | rfl | rfl | rfl | rfl | rfl | rfl | rfl | rfl | rfl <;> (first | (go_simp; done) | (simp; done)))), by go_simp, by go_simp, (fun j hj => by (rcases (show j = 0 ∨ j = 1 ∨ j = 2 ∨ j = 3 ∨ j = 4 ∨ j = 5 ∨ j = 6 ∨ j = 7 ∨ j = 8 ∨ j = 9 ∨ j = 10 ∨ j = 11 by omega) with rfl | rfl | rfl | rfl | rfl | rfl | rfl | rfl | rfl | rfl | rfl | rfl <;> (first | (go_simp; done) | (simp; done)))), (fun j hj => by (rcases (show j = 0 ∨ j = 1 ∨ j = 2 ∨ j = 3 ∨ j = 4 ∨ j = 5 ∨ j = 6 ∨ j = 7 ∨ j = 8 ∨ j = 9 ∨ j = 10 ∨ j = 11 by omega) with rfl | rfl | rfl | rfl | rfl | rfl | rfl | rfl | rfl | rfl | rfl | rfl <;> (first | (go_simp; done) | (simp; done)))), (fun j hj => by (rcases (show j = 0 ∨ j = 1 ∨ j = 2 ∨ j = 3 ∨ j = 4 ∨ j = 5 ∨ j = 6 ∨ j = 7 ∨ j = 8 ∨ j = 9 ∨ j = 10 ∨ j = 11 by omega) with rfl | rfl | rfl | rfl | rfl | rfl | rfl | rfl | rfl | rfl | rfl | rfl <;> (first | (go_simp; done) | (simp; done)))), by repeat (first | with_reducible apply Below.refl | (with_reducible apply Below.setCell; rotate_left; focus (first | omega | (simp; done) | (simp; omega))) | (with_reducible apply Below.alloc; rotate_left; focus (first | omega | (simp; done) | (simp; omega))) | with_reducible apply Below.drew | with_reducible apply belowDrewN | (with_reducible apply Below.trans; rotate_left; with_reducible apply Below.mono; with_reducible assumption; focus (first | omega | (simp; done) | (simp; omega)))), by simp⟩

set_option maxRecDepth 20000 in
set_option maxHeartbeats 8000000 in
theorem l6Push_any (V : Nat → Int) (p q : Int) (w : World) (b6 : -20000000 ≤ V 6 ∧ V 6 ≤ 20000000) (b7 : -20000000 ≤ V 7 ∧ V 7 ≤ 20000000) (bp : -20000000 ≤ p ∧ p ≤ 20000000) (bq : -20000000 ≤ q ∧ q ≤ 20000000) :
    Calls Try.prog 37 #[bodyW V, vv p q] w fun e w' => e = .returned (bodyW (pushV V p q)) ∧ Below w.heap.size w w' := by
  have hset := cset_map
  have e6 : IntKind.i64.wrap (V 6 + p) = V 6 + p := i64w (by omega)
  have e7 : IntKind.i64.wrap (V 7 + q) = V 7 + q := i64w (by omega)
  unfold pushV
  by_cases m : V 8 = 0
  · rw [if_pos m]
    go_enter Try.func37, Try.ntmps37
    go_upto_region 1 with fail
    have h0 := PB.start w V p q
    generalize (((w.alloc (.cells #[.int .i64 (V 0), .int .i64 (V 1), .int .i64 (V 2), .int .i64 (V 3), .int .i64 (V 4), .int .i64 (V 5), .int .i64 (V 6), .int .i64 (V 7), .int .i64 (V 8), .int .i64 (V 9), .int .i64 (V 10), .int .i64 (V 11)] 43)).alloc (.cells #[.int .i64 p, .int .i64 q] 41)).alloc (.cells #[.int .i64 0, .int .i64 0, .int .i64 0, .int .i64 0, .int .i64 0, .int .i64 0, .int .i64 0, .int .i64 0, .int .i64 0, .int .i64 0, .int .i64 0, .int .i64 0] 43)) = wx0 at h0 ⊢
    have o0 := h0.inn 0 (by omega)
    have r0 := h0.res 0 (by omega)
    have f0 := h0.nfr 0 (by omega)
    have o1 := h0.inn 1 (by omega)
    have r1 := h0.res 1 (by omega)
    have f1 := h0.nfr 1 (by omega)
    have o2 := h0.inn 2 (by omega)
    have r2 := h0.res 2 (by omega)
    have f2 := h0.nfr 2 (by omega)
    have o3 := h0.inn 3 (by omega)
    have r3 := h0.res 3 (by omega)
    have f3 := h0.nfr 3 (by omega)
    have o4 := h0.inn 4 (by omega)
    have r4 := h0.res 4 (by omega)
    have f4 := h0.nfr 4 (by omega)
    have o5 := h0.inn 5 (by omega)
    have r5 := h0.res 5 (by omega)
    have f5 := h0.nfr 5 (by omega)
    have o6 := h0.inn 6 (by omega)
    have r6 := h0.res 6 (by omega)
    have f6 := h0.nfr 6 (by omega)
    have o7 := h0.inn 7 (by omega)
    have r7 := h0.res 7 (by omega)
    have f7 := h0.nfr 7 (by omega)
    have o8 := h0.inn 8 (by omega)
    have r8 := h0.res 8 (by omega)
    have f8 := h0.nfr 8 (by omega)
    have o9 := h0.inn 9 (by omega)
    have r9 := h0.res 9 (by omega)
    have f9 := h0.nfr 9 (by omega)
    have o10 := h0.inn 10 (by omega)
    have r10 := h0.res 10 (by omega)
    have f10 := h0.nfr 10 (by omega)
    have o11 := h0.inn 11 (by omega)
    have r11 := h0.res 11 (by omega)
    have f11 := h0.nfr 11 (by omega)
    have z0 := h0.big
    have hbel := h0.bel
    clear h0
    go_wp2_with fail
    exact bodyPost_ret (v := bodyW V) (by simp [results, Try.results37, go_sem, *]) rfl ⟨rfl, by repeat (first | with_reducible apply Below.refl | (with_reducible apply Below.setCell; rotate_left; focus (first | omega | (simp; done) | (simp; omega))) | (with_reducible apply Below.alloc; rotate_left; focus (first | omega | (simp; done) | (simp; omega))) | with_reducible apply Below.drew | with_reducible apply belowDrewN | (with_reducible apply Below.trans; rotate_left; with_reducible apply Below.mono; with_reducible assumption; focus (first | omega | (simp; done) | (simp; omega))))⟩
  · rw [if_neg m]
    obtain ⟨U, hU⟩ : ∃ U, setV (setV V 6 (clampZ 20000000 (V 6 + p))) 7 (clampZ 20000000 (V 7 + q)) = U := ⟨_, rfl⟩
    obtain ⟨U2, hU2⟩ : ∃ U2, setV U 11 0 = U2 := ⟨_, rfl⟩
    rw [hU, hU2]
    go_enter Try.func37, Try.ntmps37
    go_upto_region 1 with fail
    have h0 := PB.start w V p q
    generalize (((w.alloc (.cells #[.int .i64 (V 0), .int .i64 (V 1), .int .i64 (V 2), .int .i64 (V 3), .int .i64 (V 4), .int .i64 (V 5), .int .i64 (V 6), .int .i64 (V 7), .int .i64 (V 8), .int .i64 (V 9), .int .i64 (V 10), .int .i64 (V 11)] 43)).alloc (.cells #[.int .i64 p, .int .i64 q] 41)).alloc (.cells #[.int .i64 0, .int .i64 0, .int .i64 0, .int .i64 0, .int .i64 0, .int .i64 0, .int .i64 0, .int .i64 0, .int .i64 0, .int .i64 0, .int .i64 0, .int .i64 0] 43)) = wx0 at h0 ⊢
    have i8 := h0.inn 8 (by omega)
    go_upto_region 3 with fail
    have i6 := h0.inn 6 (by omega)
    have i7 := h0.inn 7 (by omega)
    have n6 := h0.nfi 6 (by omega)
    have n7 := h0.nfi 7 (by omega)
    have y0 := h0.v0
    have y1 := h0.v1
    go_cut [] (fun wc => PB w wc U p q)
    case first =>
      refine wp_region_held_drew (S := fun w' => w'.cell? ⟨w.heap.size + 1, 0, none⟩ = some (.int .i64 p) ∧ w'.cell? ⟨w.heap.size + 1, 1, none⟩ = some (.int .i64 q)) (by kernel_rfl) ?_ (fun hHeld => ?_)
      · (try dsimp only)
        (first | (go_simp; done) | (go_keep; done))
      (refine wpAnyH_take (i := 0) (oi := { dst := some 9, op := Go.Op.fieldAddr 43 (Go.Operand.tmp 2) 3, type := 0, pos := "l6_body.go:67", after := #[], guard := none }) (v := ?_) rfl (by kernel_rfl) (by kernel_rfl) (by kernel_rfl) (fun _ _ _ h => h) (Or.inl ⟨by rfl, ?_⟩) hHeld ?_; rotate_left; (focus ((intro w hSw; (try dsimp only at hSw); go_simp); (try with_reducible rfl); done)); (try simp only [Act.put, List.setIfInBounds_toArray, List.set_cons_zero, List.set_cons_succ]))
      (refine wpAnyH_take (i := 1) (oi := { dst := some 10, op := Go.Op.fieldAddr 41 (Go.Operand.tmp 9) 0, type := 0, pos := "l6_body.go:67", after := #[{ on := 0, ground := Go.Ground.data }], guard := none }) (v := ?_) rfl (by kernel_rfl) (by kernel_rfl) (by kernel_rfl) (fun _ _ _ h => h) (Or.inl ⟨by rfl, ?_⟩) hHeld ?_; rotate_left; (focus ((intro w hSw; (try dsimp only at hSw); go_simp); (try with_reducible rfl); done)); (try simp only [Act.put, List.setIfInBounds_toArray, List.set_cons_zero, List.set_cons_succ]))
      (refine wpAnyH_take (i := 3) (oi := { dst := some 12, op := Go.Op.fieldAddr 41 (Go.Operand.tmp 3) 0, type := 0, pos := "l6_body.go:67", after := #[], guard := none }) (v := ?_) rfl (by kernel_rfl) (by kernel_rfl) (by kernel_rfl) (fun _ _ _ h => h) (Or.inl ⟨by rfl, ?_⟩) hHeld ?_; rotate_left; (focus ((intro w hSw; (try dsimp only at hSw); go_simp); (try with_reducible rfl); done)); (try simp only [Act.put, List.setIfInBounds_toArray, List.set_cons_zero, List.set_cons_succ]))
      (refine wpAnyH_take (i := 4) (oi := { dst := some 13, op := Go.Op.load 3 (Go.Operand.tmp 12), type := 3, pos := "l6_body.go:67", after := #[{ on := 3, ground := Go.Ground.data }], guard := none }) (v := ?_) rfl (by kernel_rfl) (by kernel_rfl) (by kernel_rfl) (fun _ _ _ h => h) (Or.inl ⟨by rfl, ?_⟩) hHeld ?_; rotate_left; (focus ((intro w hSw; (try dsimp only at hSw); go_simp); (try with_reducible rfl); done)); (try simp only [Act.put, List.setIfInBounds_toArray, List.set_cons_zero, List.set_cons_succ]))
      (refine wpAnyH_take (i := 7) (oi := { dst := some 16, op := Go.Op.fieldAddr 43 (Go.Operand.tmp 2) 3, type := 0, pos := "l6_body.go:67", after := #[], guard := none }) (v := ?_) rfl (by kernel_rfl) (by kernel_rfl) (by kernel_rfl) (fun _ _ _ h => h) (Or.inl ⟨by rfl, ?_⟩) hHeld ?_; rotate_left; (focus ((intro w hSw; (try dsimp only at hSw); go_simp); (try with_reducible rfl); done)); (try simp only [Act.put, List.setIfInBounds_toArray, List.set_cons_zero, List.set_cons_succ]))
      (refine wpAnyH_take (i := 8) (oi := { dst := some 17, op := Go.Op.fieldAddr 41 (Go.Operand.tmp 16) 1, type := 0, pos := "l6_body.go:67", after := #[{ on := 7, ground := Go.Ground.data }], guard := none }) (v := ?_) rfl (by kernel_rfl) (by kernel_rfl) (by kernel_rfl) (fun _ _ _ h => h) (Or.inl ⟨by rfl, ?_⟩) hHeld ?_; rotate_left; (focus ((intro w hSw; (try dsimp only at hSw); go_simp); (try with_reducible rfl); done)); (try simp only [Act.put, List.setIfInBounds_toArray, List.set_cons_zero, List.set_cons_succ]))
      (refine wpAnyH_take (i := 10) (oi := { dst := some 19, op := Go.Op.fieldAddr 41 (Go.Operand.tmp 3) 1, type := 0, pos := "l6_body.go:67", after := #[], guard := none }) (v := ?_) rfl (by kernel_rfl) (by kernel_rfl) (by kernel_rfl) (fun _ _ _ h => h) (Or.inl ⟨by rfl, ?_⟩) hHeld ?_; rotate_left; (focus ((intro w hSw; (try dsimp only at hSw); go_simp); (try with_reducible rfl); done)); (try simp only [Act.put, List.setIfInBounds_toArray, List.set_cons_zero, List.set_cons_succ]))
      (refine wpAnyH_take (i := 11) (oi := { dst := some 20, op := Go.Op.load 3 (Go.Operand.tmp 19), type := 3, pos := "l6_body.go:67", after := #[{ on := 10, ground := Go.Ground.data }], guard := none }) (v := ?_) rfl (by kernel_rfl) (by kernel_rfl) (by kernel_rfl) (fun _ _ _ h => h) (Or.inl ⟨by rfl, ?_⟩) hHeld ?_; rotate_left; (focus ((intro w hSw; (try dsimp only at hSw); go_simp); (try with_reducible rfl); done)); (try simp only [Act.put, List.setIfInBounds_toArray, List.set_cons_zero, List.set_cons_succ]))
      refine wpAnyH_ready (rs := [2, 9]) (by kernel_rfl) (by simp) ?_
      refine AllReadyH.cons (o := { dst := some 11, op := Go.Op.load 3 (Go.Operand.tmp 10), type := 3, pos := "l6_body.go:67", after := #[{ on := 1, ground := Go.Ground.data }], guard := none }) rfl (fun K hK => ?_) (AllReadyH.cons (o := { dst := some 18, op := Go.Op.load 3 (Go.Operand.tmp 17), type := 3, pos := "l6_body.go:67", after := #[{ on := 8, ground := Go.Ground.data }], guard := none }) rfl (fun K hK => ?_) AllReadyH.nil)
      · (go_simp; refine hK.out _ _ ?_ (fun hHeld => ?_); (focus ((try dsimp only); (first | (go_simp; done) | (go_keep; done)))); clear hK K; (try simp only [Act.put, List.setIfInBounds_toArray, List.set_cons_zero, List.set_cons_succ]))
        (refine wpAnyH_take (i := 5) (oi := { dst := some 14, op := Go.Op.binOp Go.BinOp.add 3 (Go.Operand.tmp 11) (Go.Operand.tmp 13) 3, type := 3, pos := "l6_body.go:67", after := #[{ on := 2, ground := Go.Ground.data }, { on := 4, ground := Go.Ground.data }], guard := none }) (v := ?_) rfl (by kernel_rfl) (by kernel_rfl) (by kernel_rfl) (fun _ _ _ h => h) (Or.inl ⟨by rfl, ?_⟩) hHeld ?_; rotate_left; (focus ((intro w hSw; (try dsimp only at hSw); go_simp); (try with_reducible rfl); done)); (try simp only [Act.put, List.setIfInBounds_toArray, List.set_cons_zero, List.set_cons_succ]))
        refine wpAnyH_ready (rs := [6, 9]) (by kernel_rfl) (by simp) ?_
        refine AllReadyH.cons (o := { dst := some 15, op := Go.Op.call { callee := Go.Callee.value (Go.Operand.func 60), args := #[Go.Operand.tmp 14, Go.Operand.const (Go.Value.int Go.IntKind.i64 20000000)], argTypes := #[3, 3] }, type := 3, pos := "l6_body.go:67", after := #[{ on := 5, ground := Go.Ground.data }], guard := none }) rfl (fun K hK => ?_) (AllReadyH.cons (o := { dst := some 18, op := Go.Op.load 3 (Go.Operand.tmp 17), type := 3, pos := "l6_body.go:67", after := #[{ on := 8, ground := Go.Ground.data }], guard := none }) rfl (fun K hK => ?_) AllReadyH.nil)
        · (go_simp; (go_at_call 60; refine (l6Within_any _ _ _ (by omega) (by omega)).mono ?_; rintro e w' ⟨rfl, rfl⟩); (try go_wp2_with fail); refine hK.out _ _ ?_ (fun hHeld => ?_); (focus ((try dsimp only); (first | (go_simp; done) | (go_keep; done)))); clear hK K; (try simp only [Act.put, List.setIfInBounds_toArray, List.set_cons_zero, List.set_cons_succ]))
          (refine wpAnyH_ready (rs := [9]) (by kernel_rfl) (by simp) ?_; refine AllReadyH.cons (o := { dst := some 18, op := Go.Op.load 3 (Go.Operand.tmp 17), type := 3, pos := "l6_body.go:67", after := #[{ on := 8, ground := Go.Ground.data }], guard := none }) rfl (fun K hK => ?_) AllReadyH.nil; go_simp; refine hK.out _ _ ?_ (fun hHeld => ?_); (focus ((try dsimp only); (first | (go_simp; done) | (go_keep; done)))); clear hK K; (try simp only [Act.put, List.setIfInBounds_toArray, List.set_cons_zero, List.set_cons_succ]))
          (refine wpAnyH_take (i := 12) (oi := { dst := some 21, op := Go.Op.binOp Go.BinOp.add 3 (Go.Operand.tmp 18) (Go.Operand.tmp 20) 3, type := 3, pos := "l6_body.go:67", after := #[{ on := 9, ground := Go.Ground.data }, { on := 11, ground := Go.Ground.data }], guard := none }) (v := ?_) rfl (by kernel_rfl) (by kernel_rfl) (by kernel_rfl) (fun _ _ _ h => h) (Or.inl ⟨by rfl, ?_⟩) hHeld ?_; rotate_left; (focus ((intro w hSw; (try dsimp only at hSw); go_simp); (try with_reducible rfl); done)); (try simp only [Act.put, List.setIfInBounds_toArray, List.set_cons_zero, List.set_cons_succ]))
          (refine wpAnyH_ready (rs := [13]) (by kernel_rfl) (by simp) ?_; refine AllReadyH.cons (o := { dst := some 22, op := Go.Op.call { callee := Go.Callee.value (Go.Operand.func 60), args := #[Go.Operand.tmp 21, Go.Operand.const (Go.Value.int Go.IntKind.i64 20000000)], argTypes := #[3, 3] }, type := 3, pos := "l6_body.go:67", after := #[{ on := 12, ground := Go.Ground.data }, { on := 6, ground := Go.Ground.chain }], guard := none }) rfl (fun K hK => ?_) AllReadyH.nil; go_simp; (go_at_call 60; refine (l6Within_any _ _ _ (by omega) (by omega)).mono ?_; rintro e w' ⟨rfl, rfl⟩); (try go_wp2_with fail); refine hK.out _ _ ?_ (fun hHeld => ?_); (focus ((try dsimp only); (first | (go_simp; done) | (go_keep; done)))); clear hK K; (try simp only [Act.put, List.setIfInBounds_toArray, List.set_cons_zero, List.set_cons_succ]))
          (refine wpAnyH_take (i := 14) (oi := { dst := some 23, op := Go.Op.build 41 #[(0, Go.Operand.tmp 15), (1, Go.Operand.tmp 22)], type := 41, pos := "l6_body.go:67", after := #[{ on := 6, ground := Go.Ground.data }, { on := 13, ground := Go.Ground.data }], guard := none }) (v := ?_) rfl (by kernel_rfl) (by kernel_rfl) (by kernel_rfl) (fun _ _ _ h => h) (Or.inl ⟨by rfl, ?_⟩) hHeld ?_; rotate_left; (focus ((intro w hSw; (try dsimp only at hSw); go_simp); (try with_reducible rfl); done)); (try simp only [Act.put, List.setIfInBounds_toArray, List.set_cons_zero, List.set_cons_succ]))
          (refine wpAnyH_take (i := 15) (oi := { dst := some 24, op := Go.Op.fieldAddr 43 (Go.Operand.tmp 2) 3, type := 0, pos := "l6_body.go:67", after := #[{ on := 0, ground := Go.Ground.phase }, { on := 1, ground := Go.Ground.phase }, { on := 2, ground := Go.Ground.phase }, { on := 3, ground := Go.Ground.phase }, { on := 4, ground := Go.Ground.phase }, { on := 5, ground := Go.Ground.phase }, { on := 6, ground := Go.Ground.phase }, { on := 7, ground := Go.Ground.phase }, { on := 8, ground := Go.Ground.phase }, { on := 9, ground := Go.Ground.phase }, { on := 10, ground := Go.Ground.phase }, { on := 11, ground := Go.Ground.phase }, { on := 12, ground := Go.Ground.phase }, { on := 13, ground := Go.Ground.phase }, { on := 14, ground := Go.Ground.phase }], guard := none }) (v := ?_) rfl (by kernel_rfl) (by kernel_rfl) (by kernel_rfl) (fun _ _ _ h => h) (Or.inl ⟨by rfl, ?_⟩) hHeld ?_; rotate_left; (focus ((intro w hSw; (try dsimp only at hSw); go_simp); (try with_reducible rfl); done)); (try simp only [Act.put, List.setIfInBounds_toArray, List.set_cons_zero, List.set_cons_succ]))
          (refine wpAnyH_ready (rs := [16]) (by kernel_rfl) (by simp) ?_; refine AllReadyH.cons (o := { dst := none, op := Go.Op.store 41 (Go.Operand.tmp 24) (Go.Operand.tmp 23), type := 0, pos := "l6_body.go:67", after := #[{ on := 15, ground := Go.Ground.data }, { on := 14, ground := Go.Ground.data }, { on := 13, ground := Go.Ground.chain }, { on := 0, ground := Go.Ground.phase }, { on := 1, ground := Go.Ground.phase }, { on := 2, ground := Go.Ground.phase }, { on := 3, ground := Go.Ground.phase }, { on := 4, ground := Go.Ground.phase }, { on := 5, ground := Go.Ground.phase }, { on := 6, ground := Go.Ground.phase }, { on := 7, ground := Go.Ground.phase }, { on := 8, ground := Go.Ground.phase }, { on := 9, ground := Go.Ground.phase }, { on := 10, ground := Go.Ground.phase }, { on := 11, ground := Go.Ground.phase }, { on := 12, ground := Go.Ground.phase }, { on := 13, ground := Go.Ground.phase }, { on := 14, ground := Go.Ground.phase }], guard := none }) rfl (fun K hK => ?_) AllReadyH.nil; go_simp; refine hK.out _ _ ?_ (fun hHeld => ?_); (focus ((try dsimp only); (first | (go_simp; done) | (go_keep; done)))); clear hK K; (try simp only [Act.put, List.setIfInBounds_toArray, List.set_cons_zero, List.set_cons_succ]))
          refine wpAnyH_done (by kernel_rfl) ?_ _
          go_wp2_with fail
          go_meet
          have q9 := PB.drew (PB.set (PB.set h0 (k := 6) (by omega) (clampZ 20000000 (V 6 + p))) (k := 7) (by omega) (clampZ 20000000 (V 7 + q)))
          rw [hU] at q9
          exact q9
        · (go_simp; refine hK.out _ _ ?_ (fun hHeld => ?_); (focus ((try dsimp only); (first | (go_simp; done) | (go_keep; done)))); clear hK K; (try simp only [Act.put, List.setIfInBounds_toArray, List.set_cons_zero, List.set_cons_succ]))
          (refine wpAnyH_take (i := 12) (oi := { dst := some 21, op := Go.Op.binOp Go.BinOp.add 3 (Go.Operand.tmp 18) (Go.Operand.tmp 20) 3, type := 3, pos := "l6_body.go:67", after := #[{ on := 9, ground := Go.Ground.data }, { on := 11, ground := Go.Ground.data }], guard := none }) (v := ?_) rfl (by kernel_rfl) (by kernel_rfl) (by kernel_rfl) (fun _ _ _ h => h) (Or.inl ⟨by rfl, ?_⟩) hHeld ?_; rotate_left; (focus ((intro w hSw; (try dsimp only at hSw); go_simp); (try with_reducible rfl); done)); (try simp only [Act.put, List.setIfInBounds_toArray, List.set_cons_zero, List.set_cons_succ]))
          (refine wpAnyH_ready (rs := [6]) (by kernel_rfl) (by simp) ?_; refine AllReadyH.cons (o := { dst := some 15, op := Go.Op.call { callee := Go.Callee.value (Go.Operand.func 60), args := #[Go.Operand.tmp 14, Go.Operand.const (Go.Value.int Go.IntKind.i64 20000000)], argTypes := #[3, 3] }, type := 3, pos := "l6_body.go:67", after := #[{ on := 5, ground := Go.Ground.data }], guard := none }) rfl (fun K hK => ?_) AllReadyH.nil; go_simp; (go_at_call 60; refine (l6Within_any _ _ _ (by omega) (by omega)).mono ?_; rintro e w' ⟨rfl, rfl⟩); (try go_wp2_with fail); refine hK.out _ _ ?_ (fun hHeld => ?_); (focus ((try dsimp only); (first | (go_simp; done) | (go_keep; done)))); clear hK K; (try simp only [Act.put, List.setIfInBounds_toArray, List.set_cons_zero, List.set_cons_succ]))
          (refine wpAnyH_ready (rs := [13]) (by kernel_rfl) (by simp) ?_; refine AllReadyH.cons (o := { dst := some 22, op := Go.Op.call { callee := Go.Callee.value (Go.Operand.func 60), args := #[Go.Operand.tmp 21, Go.Operand.const (Go.Value.int Go.IntKind.i64 20000000)], argTypes := #[3, 3] }, type := 3, pos := "l6_body.go:67", after := #[{ on := 12, ground := Go.Ground.data }, { on := 6, ground := Go.Ground.chain }], guard := none }) rfl (fun K hK => ?_) AllReadyH.nil; go_simp; (go_at_call 60; refine (l6Within_any _ _ _ (by omega) (by omega)).mono ?_; rintro e w' ⟨rfl, rfl⟩); (try go_wp2_with fail); refine hK.out _ _ ?_ (fun hHeld => ?_); (focus ((try dsimp only); (first | (go_simp; done) | (go_keep; done)))); clear hK K; (try simp only [Act.put, List.setIfInBounds_toArray, List.set_cons_zero, List.set_cons_succ]))
          (refine wpAnyH_take (i := 14) (oi := { dst := some 23, op := Go.Op.build 41 #[(0, Go.Operand.tmp 15), (1, Go.Operand.tmp 22)], type := 41, pos := "l6_body.go:67", after := #[{ on := 6, ground := Go.Ground.data }, { on := 13, ground := Go.Ground.data }], guard := none }) (v := ?_) rfl (by kernel_rfl) (by kernel_rfl) (by kernel_rfl) (fun _ _ _ h => h) (Or.inl ⟨by rfl, ?_⟩) hHeld ?_; rotate_left; (focus ((intro w hSw; (try dsimp only at hSw); go_simp); (try with_reducible rfl); done)); (try simp only [Act.put, List.setIfInBounds_toArray, List.set_cons_zero, List.set_cons_succ]))
          (refine wpAnyH_take (i := 15) (oi := { dst := some 24, op := Go.Op.fieldAddr 43 (Go.Operand.tmp 2) 3, type := 0, pos := "l6_body.go:67", after := #[{ on := 0, ground := Go.Ground.phase }, { on := 1, ground := Go.Ground.phase }, { on := 2, ground := Go.Ground.phase }, { on := 3, ground := Go.Ground.phase }, { on := 4, ground := Go.Ground.phase }, { on := 5, ground := Go.Ground.phase }, { on := 6, ground := Go.Ground.phase }, { on := 7, ground := Go.Ground.phase }, { on := 8, ground := Go.Ground.phase }, { on := 9, ground := Go.Ground.phase }, { on := 10, ground := Go.Ground.phase }, { on := 11, ground := Go.Ground.phase }, { on := 12, ground := Go.Ground.phase }, { on := 13, ground := Go.Ground.phase }, { on := 14, ground := Go.Ground.phase }], guard := none }) (v := ?_) rfl (by kernel_rfl) (by kernel_rfl) (by kernel_rfl) (fun _ _ _ h => h) (Or.inl ⟨by rfl, ?_⟩) hHeld ?_; rotate_left; (focus ((intro w hSw; (try dsimp only at hSw); go_simp); (try with_reducible rfl); done)); (try simp only [Act.put, List.setIfInBounds_toArray, List.set_cons_zero, List.set_cons_succ]))
          (refine wpAnyH_ready (rs := [16]) (by kernel_rfl) (by simp) ?_; refine AllReadyH.cons (o := { dst := none, op := Go.Op.store 41 (Go.Operand.tmp 24) (Go.Operand.tmp 23), type := 0, pos := "l6_body.go:67", after := #[{ on := 15, ground := Go.Ground.data }, { on := 14, ground := Go.Ground.data }, { on := 13, ground := Go.Ground.chain }, { on := 0, ground := Go.Ground.phase }, { on := 1, ground := Go.Ground.phase }, { on := 2, ground := Go.Ground.phase }, { on := 3, ground := Go.Ground.phase }, { on := 4, ground := Go.Ground.phase }, { on := 5, ground := Go.Ground.phase }, { on := 6, ground := Go.Ground.phase }, { on := 7, ground := Go.Ground.phase }, { on := 8, ground := Go.Ground.phase }, { on := 9, ground := Go.Ground.phase }, { on := 10, ground := Go.Ground.phase }, { on := 11, ground := Go.Ground.phase }, { on := 12, ground := Go.Ground.phase }, { on := 13, ground := Go.Ground.phase }, { on := 14, ground := Go.Ground.phase }], guard := none }) rfl (fun K hK => ?_) AllReadyH.nil; go_simp; refine hK.out _ _ ?_ (fun hHeld => ?_); (focus ((try dsimp only); (first | (go_simp; done) | (go_keep; done)))); clear hK K; (try simp only [Act.put, List.setIfInBounds_toArray, List.set_cons_zero, List.set_cons_succ]))
          refine wpAnyH_done (by kernel_rfl) ?_ _
          go_wp2_with fail
          go_meet
          have q9 := PB.drew (PB.set (PB.set h0 (k := 6) (by omega) (clampZ 20000000 (V 6 + p))) (k := 7) (by omega) (clampZ 20000000 (V 7 + q)))
          rw [hU] at q9
          exact q9
      · (go_simp; refine hK.out _ _ ?_ (fun hHeld => ?_); (focus ((try dsimp only); (first | (go_simp; done) | (go_keep; done)))); clear hK K; (try simp only [Act.put, List.setIfInBounds_toArray, List.set_cons_zero, List.set_cons_succ]))
        (refine wpAnyH_take (i := 12) (oi := { dst := some 21, op := Go.Op.binOp Go.BinOp.add 3 (Go.Operand.tmp 18) (Go.Operand.tmp 20) 3, type := 3, pos := "l6_body.go:67", after := #[{ on := 9, ground := Go.Ground.data }, { on := 11, ground := Go.Ground.data }], guard := none }) (v := ?_) rfl (by kernel_rfl) (by kernel_rfl) (by kernel_rfl) (fun _ _ _ h => h) (Or.inl ⟨by rfl, ?_⟩) hHeld ?_; rotate_left; (focus ((intro w hSw; (try dsimp only at hSw); go_simp); (try with_reducible rfl); done)); (try simp only [Act.put, List.setIfInBounds_toArray, List.set_cons_zero, List.set_cons_succ]))
        (refine wpAnyH_ready (rs := [2]) (by kernel_rfl) (by simp) ?_; refine AllReadyH.cons (o := { dst := some 11, op := Go.Op.load 3 (Go.Operand.tmp 10), type := 3, pos := "l6_body.go:67", after := #[{ on := 1, ground := Go.Ground.data }], guard := none }) rfl (fun K hK => ?_) AllReadyH.nil; go_simp; refine hK.out _ _ ?_ (fun hHeld => ?_); (focus ((try dsimp only); (first | (go_simp; done) | (go_keep; done)))); clear hK K; (try simp only [Act.put, List.setIfInBounds_toArray, List.set_cons_zero, List.set_cons_succ]))
        (refine wpAnyH_take (i := 5) (oi := { dst := some 14, op := Go.Op.binOp Go.BinOp.add 3 (Go.Operand.tmp 11) (Go.Operand.tmp 13) 3, type := 3, pos := "l6_body.go:67", after := #[{ on := 2, ground := Go.Ground.data }, { on := 4, ground := Go.Ground.data }], guard := none }) (v := ?_) rfl (by kernel_rfl) (by kernel_rfl) (by kernel_rfl) (fun _ _ _ h => h) (Or.inl ⟨by rfl, ?_⟩) hHeld ?_; rotate_left; (focus ((intro w hSw; (try dsimp only at hSw); go_simp); (try with_reducible rfl); done)); (try simp only [Act.put, List.setIfInBounds_toArray, List.set_cons_zero, List.set_cons_succ]))
        (refine wpAnyH_ready (rs := [6]) (by kernel_rfl) (by simp) ?_; refine AllReadyH.cons (o := { dst := some 15, op := Go.Op.call { callee := Go.Callee.value (Go.Operand.func 60), args := #[Go.Operand.tmp 14, Go.Operand.const (Go.Value.int Go.IntKind.i64 20000000)], argTypes := #[3, 3] }, type := 3, pos := "l6_body.go:67", after := #[{ on := 5, ground := Go.Ground.data }], guard := none }) rfl (fun K hK => ?_) AllReadyH.nil; go_simp; (go_at_call 60; refine (l6Within_any _ _ _ (by omega) (by omega)).mono ?_; rintro e w' ⟨rfl, rfl⟩); (try go_wp2_with fail); refine hK.out _ _ ?_ (fun hHeld => ?_); (focus ((try dsimp only); (first | (go_simp; done) | (go_keep; done)))); clear hK K; (try simp only [Act.put, List.setIfInBounds_toArray, List.set_cons_zero, List.set_cons_succ]))
        (refine wpAnyH_ready (rs := [13]) (by kernel_rfl) (by simp) ?_; refine AllReadyH.cons (o := { dst := some 22, op := Go.Op.call { callee := Go.Callee.value (Go.Operand.func 60), args := #[Go.Operand.tmp 21, Go.Operand.const (Go.Value.int Go.IntKind.i64 20000000)], argTypes := #[3, 3] }, type := 3, pos := "l6_body.go:67", after := #[{ on := 12, ground := Go.Ground.data }, { on := 6, ground := Go.Ground.chain }], guard := none }) rfl (fun K hK => ?_) AllReadyH.nil; go_simp; (go_at_call 60; refine (l6Within_any _ _ _ (by omega) (by omega)).mono ?_; rintro e w' ⟨rfl, rfl⟩); (try go_wp2_with fail); refine hK.out _ _ ?_ (fun hHeld => ?_); (focus ((try dsimp only); (first | (go_simp; done) | (go_keep; done)))); clear hK K; (try simp only [Act.put, List.setIfInBounds_toArray, List.set_cons_zero, List.set_cons_succ]))
        (refine wpAnyH_take (i := 14) (oi := { dst := some 23, op := Go.Op.build 41 #[(0, Go.Operand.tmp 15), (1, Go.Operand.tmp 22)], type := 41, pos := "l6_body.go:67", after := #[{ on := 6, ground := Go.Ground.data }, { on := 13, ground := Go.Ground.data }], guard := none }) (v := ?_) rfl (by kernel_rfl) (by kernel_rfl) (by kernel_rfl) (fun _ _ _ h => h) (Or.inl ⟨by rfl, ?_⟩) hHeld ?_; rotate_left; (focus ((intro w hSw; (try dsimp only at hSw); go_simp); (try with_reducible rfl); done)); (try simp only [Act.put, List.setIfInBounds_toArray, List.set_cons_zero, List.set_cons_succ]))
        (refine wpAnyH_take (i := 15) (oi := { dst := some 24, op := Go.Op.fieldAddr 43 (Go.Operand.tmp 2) 3, type := 0, pos := "l6_body.go:67", after := #[{ on := 0, ground := Go.Ground.phase }, { on := 1, ground := Go.Ground.phase }, { on := 2, ground := Go.Ground.phase }, { on := 3, ground := Go.Ground.phase }, { on := 4, ground := Go.Ground.phase }, { on := 5, ground := Go.Ground.phase }, { on := 6, ground := Go.Ground.phase }, { on := 7, ground := Go.Ground.phase }, { on := 8, ground := Go.Ground.phase }, { on := 9, ground := Go.Ground.phase }, { on := 10, ground := Go.Ground.phase }, { on := 11, ground := Go.Ground.phase }, { on := 12, ground := Go.Ground.phase }, { on := 13, ground := Go.Ground.phase }, { on := 14, ground := Go.Ground.phase }], guard := none }) (v := ?_) rfl (by kernel_rfl) (by kernel_rfl) (by kernel_rfl) (fun _ _ _ h => h) (Or.inl ⟨by rfl, ?_⟩) hHeld ?_; rotate_left; (focus ((intro w hSw; (try dsimp only at hSw); go_simp); (try with_reducible rfl); done)); (try simp only [Act.put, List.setIfInBounds_toArray, List.set_cons_zero, List.set_cons_succ]))
        (refine wpAnyH_ready (rs := [16]) (by kernel_rfl) (by simp) ?_; refine AllReadyH.cons (o := { dst := none, op := Go.Op.store 41 (Go.Operand.tmp 24) (Go.Operand.tmp 23), type := 0, pos := "l6_body.go:67", after := #[{ on := 15, ground := Go.Ground.data }, { on := 14, ground := Go.Ground.data }, { on := 13, ground := Go.Ground.chain }, { on := 0, ground := Go.Ground.phase }, { on := 1, ground := Go.Ground.phase }, { on := 2, ground := Go.Ground.phase }, { on := 3, ground := Go.Ground.phase }, { on := 4, ground := Go.Ground.phase }, { on := 5, ground := Go.Ground.phase }, { on := 6, ground := Go.Ground.phase }, { on := 7, ground := Go.Ground.phase }, { on := 8, ground := Go.Ground.phase }, { on := 9, ground := Go.Ground.phase }, { on := 10, ground := Go.Ground.phase }, { on := 11, ground := Go.Ground.phase }, { on := 12, ground := Go.Ground.phase }, { on := 13, ground := Go.Ground.phase }, { on := 14, ground := Go.Ground.phase }], guard := none }) rfl (fun K hK => ?_) AllReadyH.nil; go_simp; refine hK.out _ _ ?_ (fun hHeld => ?_); (focus ((try dsimp only); (first | (go_simp; done) | (go_keep; done)))); clear hK K; (try simp only [Act.put, List.setIfInBounds_toArray, List.set_cons_zero, List.set_cons_succ]))
        refine wpAnyH_done (by kernel_rfl) ?_ _
        go_wp2_with fail
        go_meet
        have q9 := PB.drew (PB.set (PB.set h0 (k := 6) (by omega) (clampZ 20000000 (V 6 + p))) (k := 7) (by omega) (clampZ 20000000 (V 7 + q)))
        rw [hU] at q9
        exact q9
    case rest =>
    clear i6 i7 n6 n7 y0 y1 i8 h0 hU
    have h1 := hcut
    have i11 := h1.inn 11 (by omega)
    have n11 := h1.nfi 11 (by omega)
    go_upto_region 4 with fail
    go_cut [] (fun wc => PB w wc U2 p q)
    case first =>
      go_wp2_with fail
      go_meet
      have q9 := PB.set h1 (k := 11) (by omega) 0
      rw [hU2] at q9
      exact q9
    case rest =>
    have h2 := hcut
    have o0 := h2.inn 0 (by omega)
    have r0 := h2.res 0 (by omega)
    have f0 := h2.nfr 0 (by omega)
    have o1 := h2.inn 1 (by omega)
    have r1 := h2.res 1 (by omega)
    have f1 := h2.nfr 1 (by omega)
    have o2 := h2.inn 2 (by omega)
    have r2 := h2.res 2 (by omega)
    have f2 := h2.nfr 2 (by omega)
    have o3 := h2.inn 3 (by omega)
    have r3 := h2.res 3 (by omega)
    have f3 := h2.nfr 3 (by omega)
    have o4 := h2.inn 4 (by omega)
    have r4 := h2.res 4 (by omega)
    have f4 := h2.nfr 4 (by omega)
    have o5 := h2.inn 5 (by omega)
    have r5 := h2.res 5 (by omega)
    have f5 := h2.nfr 5 (by omega)
    have o6 := h2.inn 6 (by omega)
    have r6 := h2.res 6 (by omega)
    have f6 := h2.nfr 6 (by omega)
    have o7 := h2.inn 7 (by omega)
    have r7 := h2.res 7 (by omega)
    have f7 := h2.nfr 7 (by omega)
    have o8 := h2.inn 8 (by omega)
    have r8 := h2.res 8 (by omega)
    have f8 := h2.nfr 8 (by omega)
    have o9 := h2.inn 9 (by omega)
    have r9 := h2.res 9 (by omega)
    have f9 := h2.nfr 9 (by omega)
    have o10 := h2.inn 10 (by omega)
    have r10 := h2.res 10 (by omega)
    have f10 := h2.nfr 10 (by omega)
    have o11 := h2.inn 11 (by omega)
    have r11 := h2.res 11 (by omega)
    have f11 := h2.nfr 11 (by omega)
    have z0 := h2.big
    have hbel := h2.bel
    clear h1 h2 i11 n11
    go_wp2_with fail
    exact bodyPost_ret (v := bodyW U2) (by simp [results, Try.results37, go_sem, *]) rfl ⟨rfl, by repeat (first | with_reducible apply Below.refl | (with_reducible apply Below.setCell; rotate_left; focus (first | omega | (simp; done) | (simp; omega))) | (with_reducible apply Below.alloc; rotate_left; focus (first | omega | (simp; done) | (simp; omega))) | with_reducible apply Below.drew | with_reducible apply belowDrewN | (with_reducible apply Below.trans; rotate_left; with_reducible apply Below.mono; with_reducible assumption; focus (first | omega | (simp; done) | (simp; omega))))⟩
end Go.Proofs.Ythekeeagjokpeaa
namespace Go.Proofs.Ythekeeagjokpeaa
open Go.RowKit
set_option linter.unusedVariables false
set_option linter.unusedSimpArgs false

theorem WOut.of {w w' : World} {e : Ending} {A : WA} (a1 : Option Addr) (c1 : Nat) (a2 : Option Addr) (c2 : Nat) (h : e = .returned (.tuple #[worldW A.T A.P a1 A.n c1 a2 A.m c2, .int .i64 A.k])) (k : OutW w w' a1 A.n c1 A.U a2 A.m c2 A.Q) : WOut w w' e A := ⟨a1, c1, a2, c2, h, k⟩
def pushWA (T P : Int) (n : Nat) (U : Nat → Int) (m : Nat) (Q : Nat → Int) (id x y : Int) (p : Nat) : WA :=
  bif worldB T P n U m Q then (bif inB 20000000 x y then (bif decide (p < n ∧ U (p * 12) = id) then ⟨T, P, n, putRow U p (pushV (fun j => U (p * 12 + j)) x y), m, Q, 0⟩ else ⟨T, P, n, U, m, Q, 4⟩) else ⟨T, P, n, U, m, Q, 1⟩) else WA.none
theorem worldB_bods {T P : Int} {n : Nat} {U : Nat → Int} {m : Nat} {Q : Nat → Int} (h : worldB T P n U m Q = true) : bodsB n U = true := by
  unfold worldB at h
  simp only [Bool.and_eq_true] at h
  exact h.2.2.1
theorem bodsB_bd {U : Nat → Int} {n k : Nat} (h : bodsB n U = true) (l : k < n) : bodyB (fun j => U (k * 12 + j)) = true := by
  unfold bodsB at h
  rw [Bool.and_eq_true] at h
  have := allBB_get h.2 l
  unfold stepBB at this
  rw [Bool.and_eq_true] at this
  exact this.1

set_option maxRecDepth 20000 in
set_option maxHeartbeats 8000000 in
theorem worldPush_q (T P : Int) (a : Option Addr) (n c : Nat) (U : Nat → Int) (a' : Option Addr) (m c' : Nat) (Q : Nat → Int) (id x y : Int) (p : Nat) (w : World) (h : Flat w a (n * 12) U) (h' : Flat w a' (m * 2) Q) (hn : n ≤ 1048576) (hm : m ≤ 1048576) (hp : idP U n id p) (A : WA) (eA : pushWA T P n U m Q id x y p = A) :
    Calls Try.prog 15 #[worldW T P a n c a' m c', .int .i64 id, vv x y] w fun e w' => WOut w w' e A := by
  have hset := cset_map
  have hS := FmPush.start w T P a a' n c m c' x y
  cases hok : worldB T P n U m Q with
  | false =>
    simp only [pushWA, hok, cond_false] at eA
    subst eA
    go_enter Try.func15, Try.ntmps15
    go_wp2_with (go_at_call 25; refine (worldOk_q T P a n c U a' m c' Q _ (h.below hS.wd.bel) (h'.below hS.wd.bel) hn hm false hok).mono ?_; rintro e w1 ⟨rfl, hb1⟩; have hS1 := hS.on hb1; have z0 := hS1.z0; have z1 := hS1.z1; have z2 := hS1.z2; have z3 := hS1.z3; have nf := hS1.nf; have y0 := hS1.wd.c0; have y1 := hS1.wd.c1; have y2 := hS1.wd.c2; have y3 := hS1.wd.c3; have bg := hS1.big)
    exact bodyPost_ret (v := .tuple #[worldW 0 0 none 0 0 none 0 0, .int .i64 1]) (by simp [results, Try.results15, go_sem, *]) rfl (WOut.of none 0 none 0 rfl (OutW.nil ((((hS1.wd.bel.setCell (by first | omega | (simp; done) | (simp; omega)) _).setCell (by first | omega | (simp; done) | (simp; omega)) _).setCell (by first | omega | (simp; done) | (simp; omega)) _).setCell (by first | omega | (simp; done) | (simp; omega)) _)))
  | true =>
    unfold pushWA at eA
    have hbb := worldB_bods hok
    have ha := bodsB_asc hbb
    obtain ⟨BD, hBD⟩ : ∃ b, inB 20000000 x y = b := ⟨_, rfl⟩
    obtain ⟨TH, hTH⟩ : ∃ b, decide (p < n ∧ U (p * 12) = id) = b := ⟨_, rfl⟩
    go_enter Try.func15, Try.ntmps15
    go_upto_region 3 with (go_at_call 25; refine (worldOk_q T P a n c U a' m c' Q _ (h.below hS.wd.bel) (h'.below hS.wd.bel) hn hm true hok).mono ?_; rintro e w1 ⟨rfl, hb1⟩; have hS1 := hS.on hb1; have z0 := hS1.z0; have z1 := hS1.z1; have z2 := hS1.z2; have z3 := hS1.z3; have nf := hS1.nf; have y0 := hS1.wd.c0; have y1 := hS1.wd.c1; have y2 := hS1.wd.c2; have y3 := hS1.wd.c3; have bg := hS1.big)
    go_upto_region 3 with fail
    go_cut [8] (fun s0 wc => ∃ lo hi bx a1 c1 a2 c2, s0 = .pointer (some ⟨bx, 0, none⟩) ∧ w.heap.size + 1 + 1 < lo ∧ FmPush w T P a n c a' m c' x y wc ∧ Vw wc lo hi bx T P a1 n c1 U a2 m c2 Q)
    case first =>
      go_wp2_with (go_at_call 26; refine (copied_any T P a n c U a' m c' Q _ (h.below hS1.wd.bel) (h'.below hS1.wd.bel) hn hm).mono ?_; rintro e w3 ⟨a1, c1, a2, c2, rfl, hO⟩)
      go_meet
      exact ⟨_, _, _, a1, c1, a2, c2, rfl, hS1.big, (hS1.on hO.bel).on ((Below.refl _ _).alloc (Nat.le_refl _) _), Vw.new hO⟩
    case rest =>
    clear hS hb1 hS1 y0 y1 y2 y3 z0 z1 z2 z3 nf bg
    obtain ⟨lo, hi, bx, a1, c1, a2, c2, rfl, hlo, hS, hV⟩ := hcut
    have y0 := hS.wd.c0
    have y1 := hS.wd.c1
    have y2 := hS.wd.c2
    have y3 := hS.wd.c3
    have z0 := hS.z0
    have z1 := hS.z1
    have z2 := hS.z2
    have z3 := hS.z3
    have nf := hS.nf
    have bg := hS.big
    have r0 := hS.r0
    have r1 := hS.r1
    have v0 := hV.c0
    have v1 := hV.c1
    have v2 := hV.c2
    have v3 := hV.c3
    have vn := hV.nf
    have vb := hV.blt
    have vl := hV.bl
    go_upto_region 4 with fail
    go_cut [9, 10] (fun s0 s1 wc => s0 = .int .i64 (p : Int) ∧ s1 = .bool TH ∧ FmPush w T P a n c a' m c' x y wc ∧ Vw wc lo hi bx T P a1 n c1 U a2 m c2 Q)
    case first =>
      go_wp2_with (go_at_call 27; refine (wplace_any T P a n c U a' m c' id p _ (h.below hS.wd.bel) hn ha hp TH hTH).mono ?_; rintro e w4 ⟨rfl, hb4⟩)
      go_meet
      exact ⟨rfl, rfl, hS.on hb4, hV.on hb4⟩
    case rest =>
    clear hS y0 y1 y2 y3 z0 z1 z2 z3 nf bg r0 r1 hV v0 v1 v2 v3 vn vb vl
    obtain ⟨rfl, rfl, hS, hV⟩ := hcut
    have y0 := hS.wd.c0
    have y1 := hS.wd.c1
    have y2 := hS.wd.c2
    have y3 := hS.wd.c3
    have z0 := hS.z0
    have z1 := hS.z1
    have z2 := hS.z2
    have z3 := hS.z3
    have nf := hS.nf
    have bg := hS.big
    have r0 := hS.r0
    have r1 := hS.r1
    have v0 := hV.c0
    have v1 := hV.c1
    have v2 := hV.c2
    have v3 := hV.c3
    have vn := hV.nf
    have vb := hV.blt
    have vl := hV.bl
    go_upto_region 5 with fail
    go_cut [23] (fun s0 wc => s0 = .bool (!BD) ∧ FmPush w T P a n c a' m c' x y wc ∧ Vw wc lo hi bx T P a1 n c1 U a2 m c2 Q)
    case first =>
      go_wp2_with (go_at_call 38; refine (isDrive_q x y BD _ hBD).mono ?_; rintro e w4 ⟨rfl, hb4⟩)
      go_meet
      exact ⟨rfl, hS.on hb4, hV.on hb4⟩
    case rest =>
    clear hS y0 y1 y2 y3 z0 z1 z2 z3 nf bg r0 r1 hV v0 v1 v2 v3 vn vb vl
    obtain ⟨rfl, hS, hV⟩ := hcut
    have y0 := hS.wd.c0
    have y1 := hS.wd.c1
    have y2 := hS.wd.c2
    have y3 := hS.wd.c3
    have z0 := hS.z0
    have z1 := hS.z1
    have z2 := hS.z2
    have z3 := hS.z3
    have nf := hS.nf
    have bg := hS.big
    have r0 := hS.r0
    have r1 := hS.r1
    have v0 := hV.c0
    have v1 := hV.c1
    have v2 := hV.c2
    have v3 := hV.c3
    have vn := hV.nf
    have vb := hV.blt
    have vl := hV.bl
    
    cases BD with
    | false =>
      simp only [hok, hBD, cond_true, cond_false] at eA
      subst eA
      go_wp2_with fail
      exact bodyPost_ret (v := .tuple #[worldW T P a1 n c1 a2 m c2, .int .i64 1]) (by simp [results, Try.results15, go_sem, *]) rfl (WOut.of a1 c1 a2 c2 rfl (hV.out hS.wd.bel (by omega) (by omega) _ _ _ _))
    | true =>
      cases TH with
      | false =>
        simp only [hok, hBD, hTH, cond_true, cond_false] at eA
        subst eA
        go_wp2_with fail
        exact bodyPost_ret (v := .tuple #[worldW T P a1 n c1 a2 m c2, .int .i64 4]) (by simp [results, Try.results15, go_sem, *]) rfl (WOut.of a1 c1 a2 c2 rfl (hV.out hS.wd.bel (by omega) (by omega) _ _ _ _))
      | true =>
        simp only [hok, hBD, hTH, cond_true] at eA
        subst eA
        have hpn := (of_decide_eq_true hTH).1
        clear hTH
        have hpi : (p : Int) < (n : Int) := by omega
        have hbp := bodsB_bd hbb hpn
        obtain ⟨⟨bu0, bu1⟩, ⟨bv0, bv1⟩⟩ := inB_of hBD
        obtain ⟨_, _, _, _, bd6, bd7, _⟩ := bodyB_bd hbp
        obtain ⟨g, rfl, hg1, hg2⟩ := hV.ob.loc (by omega)
        have hgx : ¬ bx = g := fun e => (hV.t1 g rfl).2 e.symm
        have hgx' : ¬ g = bx := fun e => hgx e.symm
        have hg3 : ¬ g = w.heap.size + 1 := by omega
        have hg4 : ¬ w.heap.size + 1 = g := by omega
        have hg5 : ¬ g = w.heap.size := by omega
        have hg6 : ¬ w.heap.size = g := by omega
        have d0 := hV.ob.cellq (q := p * 12) (by omega)
        have d1 := hV.ob.cellq (q := p * 12 + 1) (by omega)
        have d2 := hV.ob.cellq (q := p * 12 + 2) (by omega)
        have d3 := hV.ob.cellq (q := p * 12 + 3) (by omega)
        have d4 := hV.ob.cellq (q := p * 12 + 4) (by omega)
        have d5 := hV.ob.cellq (q := p * 12 + 5) (by omega)
        have d6 := hV.ob.cellq (q := p * 12 + 6) (by omega)
        have d7 := hV.ob.cellq (q := p * 12 + 7) (by omega)
        have d8 := hV.ob.cellq (q := p * 12 + 8) (by omega)
        have d9 := hV.ob.cellq (q := p * 12 + 9) (by omega)
        have d10 := hV.ob.cellq (q := p * 12 + 10) (by omega)
        have d11 := hV.ob.cellq (q := p * 12 + 11) (by omega)
        have df := hV.ob.fro
        go_upto_region 9 with fail
        go_cut [] (fun  wc => FmPush w T P a n c a' m c' x y wc ∧ Vw wc lo hi bx T P (some ⟨g, 0, none⟩) n c1 (putRow U p (pushV (fun j => U (p * 12 + j)) x y)) a2 m c2 Q)
        case first =>
          refine wp_region_held_drew (S := fun w' => w'.cell? ⟨bx, 2, none⟩ = some (.slice (some ⟨g, 0, none⟩) n c1) ∧ w'.cell? ⟨w.heap.size + 1, 0, none⟩ = some (.int .i64 x) ∧ w'.cell? ⟨w.heap.size + 1, 1, none⟩ = some (.int .i64 y)) (by kernel_rfl) ?_ (fun hHeld => ?_)
          · (try dsimp only)
            (first | (go_simp; done) | (go_keep; done))
          refine tq 0 hHeld ?_
          refine tq 1 hHeld ?_
          refine tq 2 hHeld ?_
          refine tq 3 hHeld ?_
          refine tq 4 hHeld ?_
          refine tq 5 hHeld ?_
          refine tq 6 hHeld ?_
          refine tq 8 hHeld ?_
          refine tc 7 fun K hK => ?_
          (go_simp; refine tr hK (fun hHeld => ?_); clear hK K)
          refine tc 9 fun K hK => ?_
          (go_simp; (go_at_call 39; refine (bodyPush_k (fun j => U (p * 12 + j)) x y _ hbp hBD).mono ?_; rintro e w5 ⟨rfl, hb5⟩; have hS5 := hS.on hb5.ofDr; have hV5 := hV.on hb5.ofDr; have k5 := hV5.c2; have k5a := hS5.r0; have k5b := hS5.r1; have k5f := hV5.ob.fro; have k5z := hV5.blt; have k5y := hS5.big; have k5c0 := hV5.ob.cellq (q := p * 12) (by omega); have k5c1 := hV5.ob.cellq (q := p * 12 + 1) (by omega); have k5c2 := hV5.ob.cellq (q := p * 12 + 2) (by omega); have k5c3 := hV5.ob.cellq (q := p * 12 + 3) (by omega); have k5c4 := hV5.ob.cellq (q := p * 12 + 4) (by omega); have k5c5 := hV5.ob.cellq (q := p * 12 + 5) (by omega); have k5c6 := hV5.ob.cellq (q := p * 12 + 6) (by omega); have k5c7 := hV5.ob.cellq (q := p * 12 + 7) (by omega); have k5c8 := hV5.ob.cellq (q := p * 12 + 8) (by omega); have k5c9 := hV5.ob.cellq (q := p * 12 + 9) (by omega); have k5c10 := hV5.ob.cellq (q := p * 12 + 10) (by omega); have k5c11 := hV5.ob.cellq (q := p * 12 + 11) (by omega)); (try go_wp2_with fail); refine tr hK (fun hHeld => ?_); clear hK K)
          refine tq 10 hHeld ?_
          refine tc 11 fun K hK => ?_
          (go_simp; refine tr hK (fun hHeld => ?_); clear hK K)
          refine wpAnyH_done (by kernel_rfl) ?_ _
          go_wp2_with fail
          go_meet
          have q := put12 hV5.ob hpn (pushV (fun j => U (p * 12 + j)) x y)
          have qf := putFr (w4 := w5) (g := g) (p := p) (pushV (fun j => U (p * 12 + j)) x y)
          exact ⟨hS5.fr qf (fun b e => by omega), hV5.bods (by omega) qf q⟩
        case rest =>
        clear hS y0 y1 y2 y3 z0 z1 z2 z3 nf bg r0 r1 hV v0 v1 v2 v3 vn vb vl
        clear d0 d1 d2 d3 d4 d5 d6 d7 d8 d9 d10 d11 df
        obtain ⟨hS, hV⟩ := hcut
        have y0 := hS.wd.c0
        have y1 := hS.wd.c1
        have y2 := hS.wd.c2
        have y3 := hS.wd.c3
        have z0 := hS.z0
        have z1 := hS.z1
        have z2 := hS.z2
        have z3 := hS.z3
        have nf := hS.nf
        have bg := hS.big
        have r0 := hS.r0
        have r1 := hS.r1
        have v0 := hV.c0
        have v1 := hV.c1
        have v2 := hV.c2
        have v3 := hV.c3
        have vn := hV.nf
        have vb := hV.blt
        have vl := hV.bl
        go_wp2_with fail
        exact bodyPost_ret (v := .tuple #[worldW T P (some ⟨g, 0, none⟩) n c1 a2 m c2, .int .i64 0]) (by simp [results, Try.results15, go_sem, *]) rfl (WOut.of _ c1 a2 c2 rfl (hV.out hS.wd.bel (by omega) (by omega) _ _ _ _))
end Go.Proofs.Ythekeeagjokpeaa
namespace Go.Proofs.Ythekeeagjokpeaa
open Go.RowKit
set_option linter.unusedVariables false
set_option linter.unusedSimpArgs false

set_option maxRecDepth 20000 in
set_option maxHeartbeats 8000000 in
theorem sWorldPush_q (T P : Int) (a : Option Addr) (n c : Nat) (U : Nat → Int) (a' : Option Addr) (m c' : Nat) (Q : Nat → Int) (id x y : Int) (p : Nat) (w : World) (h : Flat w a (n * 12) U) (h' : Flat w a' (m * 2) Q) (hn : n ≤ 1048576) (hm : m ≤ 1048576) (hp : idP U n id p) (A : WA) (eA : pushWA T P n U m Q id x y p = A) :
    Calls Try.prog 13 #[worldW T P a n c a' m c', .int .i64 id, vv x y] w fun e w' => WOut w w' e A := by
  have hset := cset_map
  have hS := FmPush.start w T P a a' n c m c' x y
  cases hok : worldB T P n U m Q with
  | false =>
    simp only [pushWA, hok, cond_false] at eA
    subst eA
    go_enter Try.func13, Try.ntmps13
    go_wp2_with (go_at_call 18; refine (sWorldOk_q T P a n c U a' m c' Q _ (h.below hS.wd.bel) (h'.below hS.wd.bel) hn hm false hok).mono ?_; rintro e w1 ⟨rfl, hb1⟩; have hS1 := hS.on hb1; have z0 := hS1.z0; have z1 := hS1.z1; have z2 := hS1.z2; have z3 := hS1.z3; have nf := hS1.nf; have y0 := hS1.wd.c0; have y1 := hS1.wd.c1; have y2 := hS1.wd.c2; have y3 := hS1.wd.c3; have bg := hS1.big)
    exact bodyPost_ret (v := .tuple #[worldW 0 0 none 0 0 none 0 0, .int .i64 1]) (by simp [results, Try.results13, go_sem, *]) rfl (WOut.of none 0 none 0 rfl (OutW.nil ((((hS1.wd.bel.setCell (by first | omega | (simp; done) | (simp; omega)) _).setCell (by first | omega | (simp; done) | (simp; omega)) _).setCell (by first | omega | (simp; done) | (simp; omega)) _).setCell (by first | omega | (simp; done) | (simp; omega)) _)))
  | true =>
    unfold pushWA at eA
    have hbb := worldB_bods hok
    have ha := bodsB_asc hbb
    obtain ⟨BD, hBD⟩ : ∃ b, inB 20000000 x y = b := ⟨_, rfl⟩
    obtain ⟨TH, hTH⟩ : ∃ b, decide (p < n ∧ U (p * 12) = id) = b := ⟨_, rfl⟩
    go_enter Try.func13, Try.ntmps13
    go_upto_region 3 with (go_at_call 18; refine (sWorldOk_q T P a n c U a' m c' Q _ (h.below hS.wd.bel) (h'.below hS.wd.bel) hn hm true hok).mono ?_; rintro e w1 ⟨rfl, hb1⟩; have hS1 := hS.on hb1; have z0 := hS1.z0; have z1 := hS1.z1; have z2 := hS1.z2; have z3 := hS1.z3; have nf := hS1.nf; have y0 := hS1.wd.c0; have y1 := hS1.wd.c1; have y2 := hS1.wd.c2; have y3 := hS1.wd.c3; have bg := hS1.big)
    go_upto_region 3 with fail
    go_cut [8, 9] (fun s0 s1 wc => s0 = .int .i64 (p : Int) ∧ s1 = .bool TH ∧ FmPush w T P a n c a' m c' x y wc)
    case first =>
      go_wp2_with (go_at_call 19; refine (l10At_q a n c U id p _ (h.below hS1.wd.bel) hn hp TH hTH).mono ?_; rintro e w4 ⟨rfl, hb4⟩)
      go_meet
      exact ⟨rfl, rfl, hS1.on hb4⟩
    case rest =>
    clear hS hb1 hS1 y0 y1 y2 y3 z0 z1 z2 z3 nf bg
    obtain ⟨rfl, rfl, hS⟩ := hcut
    have y0 := hS.wd.c0
    have y1 := hS.wd.c1
    have y2 := hS.wd.c2
    have y3 := hS.wd.c3
    have z0 := hS.z0
    have z1 := hS.z1
    have z2 := hS.z2
    have z3 := hS.z3
    have nf := hS.nf
    have bg := hS.big
    have r0 := hS.r0
    have r1 := hS.r1
    go_upto_region 4 with fail
    go_cut [22] (fun s0 wc => s0 = .bool (!BD) ∧ FmPush w T P a n c a' m c' x y wc)
    case first =>
      go_wp2_with (go_at_call 36; refine (l6Drive_q x y BD _ hBD).mono ?_; rintro e w4 ⟨rfl, hb4⟩)
      go_meet
      exact ⟨rfl, hS.on hb4⟩
    case rest =>
    clear hS y0 y1 y2 y3 z0 z1 z2 z3 nf bg r0 r1
    obtain ⟨rfl, hS⟩ := hcut
    have y0 := hS.wd.c0
    have y1 := hS.wd.c1
    have y2 := hS.wd.c2
    have y3 := hS.wd.c3
    have z0 := hS.z0
    have z1 := hS.z1
    have z2 := hS.z2
    have z3 := hS.z3
    have nf := hS.nf
    have bg := hS.big
    have r0 := hS.r0
    have r1 := hS.r1
    
    cases BD with
    | false =>
      simp only [hok, hBD, cond_true, cond_false] at eA
      subst eA
      go_wp2_with (go_at_call 21; refine (l10Copy_any T P a n c U a' m c' Q _ (h.below hS.wd.bel) (h'.below hS.wd.bel) hn hm).mono ?_; rintro e w3 ⟨a1, c1, a2, c2, rfl, hO⟩; have hS3 := hS.on hO.bel; have q0 := hS3.z0; have q1 := hS3.z1; have q2 := hS3.z2; have q3 := hS3.z3; have qf := hS3.nf; have qb := hS3.big)
      exact bodyPost_ret (v := .tuple #[worldW T P a1 n c1 a2 m c2, .int .i64 1]) (by simp [results, Try.results13, go_sem, *]) rfl (WOut.of a1 c1 a2 c2 rfl (hO.res hS.wd.bel (by omega) hS.big _ _ _ _))
    | true =>
      cases TH with
      | false =>
        simp only [hok, hBD, hTH, cond_true, cond_false] at eA
        subst eA
        go_wp2_with (go_at_call 21; refine (l10Copy_any T P a n c U a' m c' Q _ (h.below hS.wd.bel) (h'.below hS.wd.bel) hn hm).mono ?_; rintro e w3 ⟨a1, c1, a2, c2, rfl, hO⟩; have hS3 := hS.on hO.bel; have q0 := hS3.z0; have q1 := hS3.z1; have q2 := hS3.z2; have q3 := hS3.z3; have qf := hS3.nf; have qb := hS3.big)
        exact bodyPost_ret (v := .tuple #[worldW T P a1 n c1 a2 m c2, .int .i64 4]) (by simp [results, Try.results13, go_sem, *]) rfl (WOut.of a1 c1 a2 c2 rfl (hO.res hS.wd.bel (by omega) hS.big _ _ _ _))
      | true =>
        go_upto_region 8 with fail
        go_cut [10] (fun s0 wc => ∃ lo hi bx a1 c1 a2 c2, s0 = .pointer (some ⟨bx, 0, none⟩) ∧ w.heap.size + 1 + 1 < lo ∧ FmPush w T P a n c a' m c' x y wc ∧ Vw wc lo hi bx T P a1 n c1 U a2 m c2 Q)
        case first =>
          go_wp2_with (go_at_call 21; refine (l10Copy_any T P a n c U a' m c' Q _ (h.below hS.wd.bel) (h'.below hS.wd.bel) hn hm).mono ?_; rintro e w3 ⟨a1, c1, a2, c2, rfl, hO⟩; have hS3 := hS.on hO.bel; have q0 := hS3.z0; have q1 := hS3.z1; have q2 := hS3.z2; have q3 := hS3.z3; have qf := hS3.nf; have qb := hS3.big)
          go_meet
          exact ⟨_, _, _, a1, c1, a2, c2, rfl, hS.big, (hS.on hO.bel).on ((Below.refl _ _).alloc (Nat.le_refl _) _), Vw.new hO⟩
        case rest =>
        clear hS y0 y1 y2 y3 z0 z1 z2 z3 nf bg r0 r1
        obtain ⟨lo, hi, bx, a1, c1, a2, c2, rfl, hlo, hS, hV⟩ := hcut
        have y0 := hS.wd.c0
        have y1 := hS.wd.c1
        have y2 := hS.wd.c2
        have y3 := hS.wd.c3
        have z0 := hS.z0
        have z1 := hS.z1
        have z2 := hS.z2
        have z3 := hS.z3
        have nf := hS.nf
        have bg := hS.big
        have r0 := hS.r0
        have r1 := hS.r1
        have v0 := hV.c0
        have v1 := hV.c1
        have v2 := hV.c2
        have v3 := hV.c3
        have vn := hV.nf
        have vb := hV.blt
        have vl := hV.bl
        simp only [hok, hBD, hTH, cond_true] at eA
        subst eA
        have hpn := (of_decide_eq_true hTH).1
        clear hTH
        have hpi : (p : Int) < (n : Int) := by omega
        have hbp := bodsB_bd hbb hpn
        obtain ⟨⟨bu0, bu1⟩, ⟨bv0, bv1⟩⟩ := inB_of hBD
        obtain ⟨_, _, _, _, bd6, bd7, _⟩ := bodyB_bd hbp
        obtain ⟨g, rfl, hg1, hg2⟩ := hV.ob.loc (by omega)
        have hgx : ¬ bx = g := fun e => (hV.t1 g rfl).2 e.symm
        have hgx' : ¬ g = bx := fun e => hgx e.symm
        have hg3 : ¬ g = w.heap.size + 1 := by omega
        have hg4 : ¬ w.heap.size + 1 = g := by omega
        have hg5 : ¬ g = w.heap.size := by omega
        have hg6 : ¬ w.heap.size = g := by omega
        have d0 := hV.ob.cellq (q := p * 12) (by omega)
        have d1 := hV.ob.cellq (q := p * 12 + 1) (by omega)
        have d2 := hV.ob.cellq (q := p * 12 + 2) (by omega)
        have d3 := hV.ob.cellq (q := p * 12 + 3) (by omega)
        have d4 := hV.ob.cellq (q := p * 12 + 4) (by omega)
        have d5 := hV.ob.cellq (q := p * 12 + 5) (by omega)
        have d6 := hV.ob.cellq (q := p * 12 + 6) (by omega)
        have d7 := hV.ob.cellq (q := p * 12 + 7) (by omega)
        have d8 := hV.ob.cellq (q := p * 12 + 8) (by omega)
        have d9 := hV.ob.cellq (q := p * 12 + 9) (by omega)
        have d10 := hV.ob.cellq (q := p * 12 + 10) (by omega)
        have d11 := hV.ob.cellq (q := p * 12 + 11) (by omega)
        have df := hV.ob.fro
        go_upto_region 9 with fail
        go_cut [] (fun  wc => FmPush w T P a n c a' m c' x y wc ∧ Vw wc lo hi bx T P (some ⟨g, 0, none⟩) n c1 (putRow U p (pushV (fun j => U (p * 12 + j)) x y)) a2 m c2 Q)
        case first =>
          refine wp_region_held_drew (S := fun w' => w'.cell? ⟨bx, 2, none⟩ = some (.slice (some ⟨g, 0, none⟩) n c1) ∧ w'.cell? ⟨w.heap.size + 1, 0, none⟩ = some (.int .i64 x) ∧ w'.cell? ⟨w.heap.size + 1, 1, none⟩ = some (.int .i64 y)) (by kernel_rfl) ?_ (fun hHeld => ?_)
          · (try dsimp only)
            (first | (go_simp; done) | (go_keep; done))
          refine tq 0 hHeld ?_
          refine tq 1 hHeld ?_
          refine tq 2 hHeld ?_
          refine tq 3 hHeld ?_
          refine tq 4 hHeld ?_
          refine tq 5 hHeld ?_
          refine tq 6 hHeld ?_
          refine tq 8 hHeld ?_
          refine tc 7 fun K hK => ?_
          (go_simp; refine tr hK (fun hHeld => ?_); clear hK K)
          refine tc 9 fun K hK => ?_
          (go_simp; (go_at_call 37; refine (l6Push_any (fun j => U (p * 12 + j)) x y _ bd6 bd7 (by omega) (by omega)).mono ?_; rintro e w5 ⟨rfl, hb5⟩; have hS5 := hS.on hb5.ofDr; have hV5 := hV.on hb5.ofDr; have k5 := hV5.c2; have k5a := hS5.r0; have k5b := hS5.r1; have k5f := hV5.ob.fro; have k5z := hV5.blt; have k5y := hS5.big; have k5c0 := hV5.ob.cellq (q := p * 12) (by omega); have k5c1 := hV5.ob.cellq (q := p * 12 + 1) (by omega); have k5c2 := hV5.ob.cellq (q := p * 12 + 2) (by omega); have k5c3 := hV5.ob.cellq (q := p * 12 + 3) (by omega); have k5c4 := hV5.ob.cellq (q := p * 12 + 4) (by omega); have k5c5 := hV5.ob.cellq (q := p * 12 + 5) (by omega); have k5c6 := hV5.ob.cellq (q := p * 12 + 6) (by omega); have k5c7 := hV5.ob.cellq (q := p * 12 + 7) (by omega); have k5c8 := hV5.ob.cellq (q := p * 12 + 8) (by omega); have k5c9 := hV5.ob.cellq (q := p * 12 + 9) (by omega); have k5c10 := hV5.ob.cellq (q := p * 12 + 10) (by omega); have k5c11 := hV5.ob.cellq (q := p * 12 + 11) (by omega)); (try go_wp2_with fail); refine tr hK (fun hHeld => ?_); clear hK K)
          refine tq 10 hHeld ?_
          refine tc 11 fun K hK => ?_
          (go_simp; refine tr hK (fun hHeld => ?_); clear hK K)
          refine wpAnyH_done (by kernel_rfl) ?_ _
          go_wp2_with fail
          go_meet
          have q := put12 hV5.ob hpn (pushV (fun j => U (p * 12 + j)) x y)
          have qf := putFr (w4 := w5) (g := g) (p := p) (pushV (fun j => U (p * 12 + j)) x y)
          exact ⟨hS5.fr qf (fun b e => by omega), hV5.bods (by omega) qf q⟩
        case rest =>
        clear hS y0 y1 y2 y3 z0 z1 z2 z3 nf bg r0 r1 hV v0 v1 v2 v3 vn vb vl
        clear d0 d1 d2 d3 d4 d5 d6 d7 d8 d9 d10 d11 df
        obtain ⟨hS, hV⟩ := hcut
        have y0 := hS.wd.c0
        have y1 := hS.wd.c1
        have y2 := hS.wd.c2
        have y3 := hS.wd.c3
        have z0 := hS.z0
        have z1 := hS.z1
        have z2 := hS.z2
        have z3 := hS.z3
        have nf := hS.nf
        have bg := hS.big
        have r0 := hS.r0
        have r1 := hS.r1
        have v0 := hV.c0
        have v1 := hV.c1
        have v2 := hV.c2
        have v3 := hV.c3
        have vn := hV.nf
        have vb := hV.blt
        have vl := hV.bl
        go_wp2_with fail
        exact bodyPost_ret (v := .tuple #[worldW T P (some ⟨g, 0, none⟩) n c1 a2 m c2, .int .i64 0]) (by simp [results, Try.results13, go_sem, *]) rfl (WOut.of _ c1 a2 c2 rfl (hV.out hS.wd.bel (by omega) (by omega) _ _ _ _))
end Go.Proofs.Ythekeeagjokpeaa
