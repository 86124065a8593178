/- Worlds in memory of their own, marked and held. The exact law of WorldOk, walked. What may not be is 0. The contracts of the specification's BoxBoth and BoxNear. The contract of the specification's BoxNear. How two round shapes, and two boxes, touch, by the specification. How a box and something round touch, by the specification. How two shapes touch, kind by kind, by the specification. How two shapes touch, by the specification. Bodies that touch, two by two: as numbers; a list that grows in a variable. A list that a function makes. A body taken out of a world: plain mathematics. slices.Insert of one body into a list of its own memory. slices.Insert of one body where there is room, and anyhow. -/
import Derived.Test.YthekeeagjokpeaaB9
import Derived.Deep.RegionHeld3
import Derived.Deep.DeepCutAuto
import Derived.Test.YthekeeagjokpeaaB8
import Derived.Test.YthekeeagjokpeaaB2
import Derived.Deep.QuietTactic
import Derived.BigQuiet
import Derived.Deep.RegionWith
import Derived.Test.YthekeeagjokpeaaB5
import Derived.Test.YthekeeagjokpeaaB6
import Derived.Test.YthekeeagjokpeaaB1
import Derived.Laws.Externs
import Derived.Laws.CopyRow
import Derived.Lib.Overlaps
import Derived.Lib.AppendZerosOnto
namespace Go.Proofs.Ythekeeagjokpeaa
open Go.RowKit
set_option linter.unusedVariables false
set_option linter.unusedSimpArgs false
set_option maxRecDepth 20000 in
set_option maxHeartbeats 2000000 in
theorem heldBodyS_from (sf : Int) (hs0 : 0 ≤ sf) (hs1 : sf ≤ 1099511627776) (a : Option Addr) (n c : Nat) (w : World) (h : Flat w a (n * 12) (fun q => sf + (q : Int))) (hn : n ≤ 2097152) :
    Calls Try.prog 34 #[.slice a n c, .int .i64 sf] w fun e w' => e = .returned (.int .i64 (sf + (n : Int) * 12)) ∧ w' = w := by
  go_enter Try.func34, Try.ntmps34
  go_wp2
  go_loop [1, 5] (fun s i => ∃ j : Nat, j ≤ n ∧ i = .int .i64 (j : Int) ∧ s = .int .i64 (sf + (j : Int) * 12)) (fun _ i => n - (intOf i).toNat)
  case atStart => exact ⟨0, Nat.zero_le _, rfl, congrArg (Value.int .i64) (by omega)⟩
  case round =>
    obtain ⟨j, hj, rfl, rfl⟩ := hrel
    by_cases hlt : j < n
    · have hjn : (j : Int) < (n : Int) := by omega
      obtain ⟨b, o, rfl, hbl, hc⟩ := h (by omega)
      have c0 : w.cell? ⟨b, o + j * 12, none⟩ = some (.int .i64 (sf + (j : Int) * 12)) := (hc (j * 12) (by omega)).trans (congrArg (fun z => some (Value.int .i64 z)) (show sf + ((j * 12 : Nat) : Int) = sf + (j : Int) * 12 by omega))
      have c1 : w.cell? ⟨b, o + j * 12 + 1, none⟩ = some (.int .i64 (sf + (j : Int) * 12 + 1)) := (hc (j * 12 + 1) (by omega)).trans (congrArg (fun z => some (Value.int .i64 z)) (show sf + ((j * 12 + 1 : Nat) : Int) = sf + (j : Int) * 12 + 1 by omega))
      have c2 : w.cell? ⟨b, o + j * 12 + 2, none⟩ = some (.int .i64 (sf + (j : Int) * 12 + 1 + 1)) := (hc (j * 12 + 2) (by omega)).trans (congrArg (fun z => some (Value.int .i64 z)) (show sf + ((j * 12 + 2 : Nat) : Int) = sf + (j : Int) * 12 + 1 + 1 by omega))
      have c3 : w.cell? ⟨b, o + j * 12 + 3, none⟩ = some (.int .i64 (sf + (j : Int) * 12 + 1 + 1 + 1)) := (hc (j * 12 + 3) (by omega)).trans (congrArg (fun z => some (Value.int .i64 z)) (show sf + ((j * 12 + 3 : Nat) : Int) = sf + (j : Int) * 12 + 1 + 1 + 1 by omega))
      have c4 : w.cell? ⟨b, o + j * 12 + 4, none⟩ = some (.int .i64 (sf + (j : Int) * 12 + 1 + 1 + 1 + 1)) := (hc (j * 12 + 4) (by omega)).trans (congrArg (fun z => some (Value.int .i64 z)) (show sf + ((j * 12 + 4 : Nat) : Int) = sf + (j : Int) * 12 + 1 + 1 + 1 + 1 by omega))
      have c5 : w.cell? ⟨b, o + j * 12 + 5, none⟩ = some (.int .i64 (sf + (j : Int) * 12 + 1 + 1 + 1 + 1 + 1)) := (hc (j * 12 + 5) (by omega)).trans (congrArg (fun z => some (Value.int .i64 z)) (show sf + ((j * 12 + 5 : Nat) : Int) = sf + (j : Int) * 12 + 1 + 1 + 1 + 1 + 1 by omega))
      have c6 : w.cell? ⟨b, o + j * 12 + 6, none⟩ = some (.int .i64 (sf + (j : Int) * 12 + 1 + 1 + 1 + 1 + 1 + 1)) := (hc (j * 12 + 6) (by omega)).trans (congrArg (fun z => some (Value.int .i64 z)) (show sf + ((j * 12 + 6 : Nat) : Int) = sf + (j : Int) * 12 + 1 + 1 + 1 + 1 + 1 + 1 by omega))
      have c7 : w.cell? ⟨b, o + j * 12 + 7, none⟩ = some (.int .i64 (sf + (j : Int) * 12 + 1 + 1 + 1 + 1 + 1 + 1 + 1)) := (hc (j * 12 + 7) (by omega)).trans (congrArg (fun z => some (Value.int .i64 z)) (show sf + ((j * 12 + 7 : Nat) : Int) = sf + (j : Int) * 12 + 1 + 1 + 1 + 1 + 1 + 1 + 1 by omega))
      have c8 : w.cell? ⟨b, o + j * 12 + 8, none⟩ = some (.int .i64 (sf + (j : Int) * 12 + 1 + 1 + 1 + 1 + 1 + 1 + 1 + 1)) := (hc (j * 12 + 8) (by omega)).trans (congrArg (fun z => some (Value.int .i64 z)) (show sf + ((j * 12 + 8 : Nat) : Int) = sf + (j : Int) * 12 + 1 + 1 + 1 + 1 + 1 + 1 + 1 + 1 by omega))
      have c9 : w.cell? ⟨b, o + j * 12 + 9, none⟩ = some (.int .i64 (sf + (j : Int) * 12 + 1 + 1 + 1 + 1 + 1 + 1 + 1 + 1 + 1)) := (hc (j * 12 + 9) (by omega)).trans (congrArg (fun z => some (Value.int .i64 z)) (show sf + ((j * 12 + 9 : Nat) : Int) = sf + (j : Int) * 12 + 1 + 1 + 1 + 1 + 1 + 1 + 1 + 1 + 1 by omega))
      have c10 : w.cell? ⟨b, o + j * 12 + 10, none⟩ = some (.int .i64 (sf + (j : Int) * 12 + 1 + 1 + 1 + 1 + 1 + 1 + 1 + 1 + 1 + 1)) := (hc (j * 12 + 10) (by omega)).trans (congrArg (fun z => some (Value.int .i64 z)) (show sf + ((j * 12 + 10 : Nat) : Int) = sf + (j : Int) * 12 + 1 + 1 + 1 + 1 + 1 + 1 + 1 + 1 + 1 + 1 by omega))
      have c11 : w.cell? ⟨b, o + j * 12 + 11, none⟩ = some (.int .i64 (sf + (j : Int) * 12 + 1 + 1 + 1 + 1 + 1 + 1 + 1 + 1 + 1 + 1 + 1)) := (hc (j * 12 + 11) (by omega)).trans (congrArg (fun z => some (Value.int .i64 z)) (show sf + ((j * 12 + 11 : Nat) : Int) = sf + (j : Int) * 12 + 1 + 1 + 1 + 1 + 1 + 1 + 1 + 1 + 1 + 1 + 1 by omega))
      clear hc h
      go_wp2
      go_round
      case rel => exact ⟨j + 1, by omega, by go_num, congrArg (Value.int .i64) (by omega)⟩
      case measure => simp [intOf]; omega
    · obtain rfl : j = n := by omega
      go_wp2
      go_ret
      exact ⟨rfl, rfl⟩
set_option maxRecDepth 20000 in
set_option maxHeartbeats 2000000 in
theorem heldPairS_from (sf : Int) (hs0 : 0 ≤ sf) (hs1 : sf ≤ 1099511627776) (a : Option Addr) (n c : Nat) (w : World) (h : Flat w a (n * 2) (fun q => sf + (q : Int))) (hn : n ≤ 2097152) :
    Calls Try.prog 35 #[.slice a n c, .int .i64 sf] w fun e w' => e = .returned (.int .i64 (sf + (n : Int) * 2)) ∧ w' = w := by
  go_enter Try.func35, Try.ntmps35
  go_wp2
  go_loop [1, 5] (fun s i => ∃ j : Nat, j ≤ n ∧ i = .int .i64 (j : Int) ∧ s = .int .i64 (sf + (j : Int) * 2)) (fun _ i => n - (intOf i).toNat)
  case atStart => exact ⟨0, Nat.zero_le _, rfl, congrArg (Value.int .i64) (by omega)⟩
  case round =>
    obtain ⟨j, hj, rfl, rfl⟩ := hrel
    by_cases hlt : j < n
    · have hjn : (j : Int) < (n : Int) := by omega
      obtain ⟨b, o, rfl, hbl, hc⟩ := h (by omega)
      have c0 : w.cell? ⟨b, o + j * 2, none⟩ = some (.int .i64 (sf + (j : Int) * 2)) := (hc (j * 2) (by omega)).trans (congrArg (fun z => some (Value.int .i64 z)) (show sf + ((j * 2 : Nat) : Int) = sf + (j : Int) * 2 by omega))
      have c1 : w.cell? ⟨b, o + j * 2 + 1, none⟩ = some (.int .i64 (sf + (j : Int) * 2 + 1)) := (hc (j * 2 + 1) (by omega)).trans (congrArg (fun z => some (Value.int .i64 z)) (show sf + ((j * 2 + 1 : Nat) : Int) = sf + (j : Int) * 2 + 1 by omega))
      clear hc h
      go_wp2
      go_round
      case rel => exact ⟨j + 1, by omega, by go_num, congrArg (Value.int .i64) (by omega)⟩
      case measure => simp [intOf]; omega
    · obtain rfl : j = n := by omega
      go_wp2
      go_ret
      exact ⟨rfl, rfl⟩

def ownX (a1 : Option Addr) (n c1 : Nat) (a2 : Option Addr) (m c2 : Nat) (x : Nat) : Prop := (Value.slice a1 n c1).ownBlock = some x ∨ (Value.slice a2 m c2).ownBlock = some x
set_option maxRecDepth 20000 in
set_option maxHeartbeats 2000000 in
theorem markWorld_own (T P : Int) (base : Nat) (a1 : Option Addr) (n c1 : Nat) (U : Nat → Int) (a2 : Option Addr) (m c2 : Nat) (Q : Nat → Int) (w : World) (ob : OwnL w base 43 12 (.slice a1 n c1) n U) (op : OwnL w base 73 2 (.slice a2 m c2) m Q) (hn : n ≤ 1048576) (hm : m ≤ 1048576) :
    Calls Try.prog 11 #[worldW T P a1 n c1 a2 m c2, .int .i64 1] w fun e w' => e = .returned (.int .i64 (1 + (n : Int) * 12 + (m : Int) * 2)) ∧ Fr (ownX a1 n c1 a2 m c2) w w' ∧ OwnL w' base 43 12 (.slice a1 n c1) n (fun q => 1 + (q : Int)) ∧ OwnL w' base 73 2 (.slice a2 m c2) m (fun q => 1 + (n : Int) * 12 + (q : Int)) := by
  have hset := cset_map
  have hE : Below w.heap.size w (w.alloc (Obj.cells #[.int .i64 T, .int .i64 P, .slice a1 n c1, .slice a2 m c2] 36)) := (Below.refl _ _).alloc (Nat.le_refl _) _
  have hne := ob.neT op (by decide)
  have l1 := ob.lt
  have l2 := op.lt
  have o1 := ob.below hE
  have o2 := op.below hE
  have nw : ¬ ownX a1 n c1 a2 m c2 w.heap.size := fun x => by rcases x with x | x; exact absurd (l1 _ x).2 (by omega); exact absurd (l2 _ x).2 (by omega)
  go_enter Try.func11, Try.ntmps11
  go_wp2_with (first
    | (go_at_call 32; refine (markBodyS_from 1 (by omega) (by omega) base _ n _ U _ o1 (by omega)).mono ?_; rintro e w1 ⟨rfl, ho1, hg1⟩; have hF1 := Fr.grown (X := ownX a1 n c1 a2 m c2) hg1 (fun x hx => .inl hx) o1.isCells; have k3 : w1.cell? ⟨w.heap.size, 3, none⟩ = some (.slice a2 m c2) := (hF1.cell (p := ⟨w.heap.size, 3, none⟩) (by simp) nw).trans (by go_simp); have k2 : w1.cell? ⟨w.heap.size, 2, none⟩ = some (.slice a1 n c1) := (hF1.cell (p := ⟨w.heap.size, 2, none⟩) (by simp) nw).trans (by go_simp); have o2' := o2.frame (X := fun x => (Value.slice a1 n c1).ownBlock = some x) (Fr.grown hg1 (fun x hx => hx) o1.isCells) (fun b e x => hne b x e))
    | (go_at_call 33; refine (markPairS_from _ (by omega) (by omega) base _ m _ Q _ o2' (by omega)).mono ?_; rintro e w2 ⟨rfl, ho2, hg2⟩))
  go_ret
  exact ⟨rfl, ((Fr.of_below hE).trans hF1).trans (Fr.grown hg2 (fun x hx => .inr hx) o2'.isCells), ho1.frame (X := fun x => (Value.slice a2 m c2).ownBlock = some x) (Fr.grown hg2 (fun x hx => hx) o2'.isCells) (fun b e x => hne b e x), ho2⟩
set_option maxRecDepth 20000 in
set_option maxHeartbeats 2000000 in
theorem heldWorld_own (T P : Int) (a1 : Option Addr) (n c1 : Nat) (a2 : Option Addr) (m c2 : Nat) (w : World) (ob : Flat w a1 (n * 12) (fun q => 1 + (q : Int))) (op : Flat w a2 (m * 2) (fun q => 1 + (n : Int) * 12 + (q : Int))) (hn : n ≤ 1048576) (hm : m ≤ 1048576) :
    Calls Try.prog 12 #[worldW T P a1 n c1 a2 m c2, .int .i64 1] w fun e w' => e = .returned (.int .i64 (1 + (n : Int) * 12 + (m : Int) * 2)) ∧ Below w.heap.size w w' := by
  have hset := cset_map
  have hE : Below w.heap.size w (w.alloc (Obj.cells #[.int .i64 T, .int .i64 P, .slice a1 n c1, .slice a2 m c2] 36)) := (Below.refl _ _).alloc (Nat.le_refl _) _
  have n1 : ¬ (1 + (n : Int) * 12 < 0) := by omega
  have n2 : ¬ (1 + (n : Int) * 12 + (m : Int) * 2 < 0) := by omega
  go_enter Try.func12, Try.ntmps12
  go_wp2_with (first
    | (go_at_call 34; refine (heldBodyS_from 1 (by omega) (by omega) _ n _ _ (ob.below hE) (by omega)).mono ?_; rintro e w1 ⟨rfl, rfl⟩)
    | (go_at_call 35; refine (heldPairS_from _ (by omega) (by omega) _ m _ _ (op.below hE) (by omega)).mono ?_; rintro e w2 ⟨rfl, rfl⟩))
  go_ret
  exact ⟨rfl, hE⟩
theorem Vw.xlt {wc : World} {lo hi bx : Nat} {T P : Int} {a1 : Option Addr} {n c1 : Nat} {U : Nat → Int} {a2 : Option Addr} {m c2 : Nat} {Q : Nat → Int} (h : Vw wc lo hi bx T P a1 n c1 U a2 m c2 Q) : ∀ b, ownX a1 n c1 a2 m c2 b → lo ≤ b ∧ b < hi ∧ b ≠ bx := fun b x => by
  rcases x with x | x
  · exact ⟨(h.ob.lt b x).1, (h.t1 b x).1, (h.t1 b x).2⟩
  · exact ⟨(h.op.lt b x).1, (h.t2 b x).1, (h.t2 b x).2⟩
theorem Vw.mark {wc : World} {lo hi bx : Nat} {T P : Int} {a1 : Option Addr} {n c1 : Nat} {U : Nat → Int} {a2 : Option Addr} {m c2 : Nat} {Q : Nat → Int} {w' : World} {U' Q' : Nat → Int} (h : Vw wc lo hi bx T P a1 n c1 U a2 m c2 Q) (hs : Fr (ownX a1 n c1 a2 m c2) wc w') (o1 : OwnL w' lo 43 12 (.slice a1 n c1) n U') (o2 : OwnL w' lo 73 2 (.slice a2 m c2) m Q') : Vw w' lo hi bx T P a1 n c1 U' a2 m c2 Q' := by
  have nb : ¬ ownX a1 n c1 a2 m c2 bx := fun x => (h.xlt _ x).2.2 rfl
  have k := fun o => hs.cell (p := ⟨bx, o, none⟩) h.blt nb
  exact ⟨(k 0).trans h.c0, (k 1).trans h.c1, (k 2).trans h.c2, (k 3).trans h.c3, fun o => (hs.frozen (p := ⟨bx, o, none⟩) h.blt nb).trans (h.nf o), h.bl, h.bh, Nat.le_trans h.le hs.size, o1, o2, h.t1, h.t2⟩
/-- a variable for a world, empty -/
structure Bx0 (w : World) (lo bx : Nat) : Prop where
  c0 : w.cell? ⟨bx, 0, none⟩ = some (.int .i64 0)
  c1 : w.cell? ⟨bx, 1, none⟩ = some (.int .i64 0)
  c2 : w.cell? ⟨bx, 2, none⟩ = some (.slice none 0 0)
  c3 : w.cell? ⟨bx, 3, none⟩ = some (.slice none 0 0)
  nf : ∀ o, w.frozen? ⟨bx, o, none⟩ = false
  bl : lo ≤ bx
  lt : bx < w.heap.size
theorem Bx0.on {w w' : World} {lo bx : Nat} (h : Bx0 w lo bx) (hb : Below w.heap.size w w') : Bx0 w' lo bx :=
  ⟨(hb.cell (p := ⟨bx, 0, none⟩) h.lt).trans h.c0, (hb.cell (p := ⟨bx, 1, none⟩) h.lt).trans h.c1, (hb.cell (p := ⟨bx, 2, none⟩) h.lt).trans h.c2, (hb.cell (p := ⟨bx, 3, none⟩) h.lt).trans h.c3, fun o => (hb.frozen (p := ⟨bx, o, none⟩) h.lt).trans (h.nf o), h.bl, Nat.lt_of_lt_of_le h.lt hb.size⟩
theorem Bx0.new (w : World) (lo : Nat) (hl : lo ≤ w.heap.size) : Bx0 (w.alloc (Obj.cells #[.int .i64 0, .int .i64 0, .slice none 0 0, .slice none 0 0] 36)) lo w.heap.size := ⟨by go_simp, by go_simp, by go_simp, by go_simp, fun o => by go_simp, hl, by simp⟩
theorem Bx0.drew {w : World} {lo bx : Nat} (h : Bx0 w lo bx) : Bx0 w.drew lo bx := h.on (Below.drew (Below.refl _ _))
theorem setFr4 (wb : World) (bx : Nat) (v0 v1 v2 v3 : Value) : Fr (fun b => b = bx) wb ((((wb.setCell ⟨bx, 0, none⟩ v0).setCell ⟨bx, 1, none⟩ v1).setCell ⟨bx, 2, none⟩ v2).setCell ⟨bx, 3, none⟩ v3) :=
  (((Fr.setCell (X := fun b => b = bx) rfl _).trans (Fr.setCell (X := fun b => b = bx) rfl _)).trans (Fr.setCell (X := fun b => b = bx) rfl _)).trans (Fr.setCell (X := fun b => b = bx) rfl _)
theorem Vw.put {wb : World} {lo bx : Nat} {T P : Int} {a1 a2 : Option Addr} {n c1 m c2 : Nat} {U Q : Nat → Int} (ob : OwnL wb lo 43 12 (.slice a1 n c1) n U) (op : OwnL wb lo 73 2 (.slice a2 m c2) m Q) (hx : Bx0 wb lo bx)
    (n1 : ∀ b, ownX a1 n c1 a2 m c2 b → b ≠ bx) : Vw ((((wb.setCell ⟨bx, 0, none⟩ (.int .i64 T)).setCell ⟨bx, 1, none⟩ (.int .i64 P)).setCell ⟨bx, 2, none⟩ (.slice a1 n c1)).setCell ⟨bx, 3, none⟩ (.slice a2 m c2)) lo wb.heap.size bx T P a1 n c1 U a2 m c2 Q := by
  have hset := cset_map
  have z0 := hx.c0
  have z1 := hx.c1
  have z2 := hx.c2
  have z3 := hx.c3
  have nf := hx.nf
  have hs := setFr4 wb bx (.int .i64 T) (.int .i64 P) (.slice a1 n c1) (.slice a2 m c2)
  refine ⟨by go_simp, by go_simp, by go_simp, by go_simp, fun o => by go_simp, hx.bl, hx.lt, hs.size, ob.frame hs (fun b e x => n1 b (.inl e) x), op.frame hs (fun b e x => n1 b (.inr e) x), fun b e => ⟨(ob.lt b e).2, n1 b (.inl e)⟩, fun b e => ⟨(op.lt b e).2, n1 b (.inr e)⟩⟩
theorem Vw.rows {w0 w2 : World} {T P : Int} {n m b d : Nat} {U Q : Nat → Int} (hr : Row w2 b 43 (n * 12) U) (hq : Row w2 d 73 (m * 2) Q) (hb : w0.heap.size ≤ b) (hd : w0.heap.size ≤ d) (hn : n ≤ 1048576) (hm : m ≤ 1048576) (hb2 : Below w0.heap.size w0 w2) :
    OutW w0 w2 (some ⟨b, 0, none⟩) n n U (some ⟨d, 0, none⟩) m m Q :=
  ⟨hb2, hr.own hb (by unfold maxLen; omega), hq.own hd (by unfold maxLen; omega), (hr.own hb (by unfold maxLen; omega)).neT (hq.own hd (by unfold maxLen; omega)) (by decide)⟩
end Go.Proofs.Ythekeeagjokpeaa
namespace Go.Proofs.Ythekeeagjokpeaa
open Go.RowKit
set_option linter.unusedVariables false
set_option linter.unusedSimpArgs false

/-- a world of the program's own, in a variable at bx -/
structure Xw (wc : World) (bx : Nat) (T P : Int) (n m b d : Nat) (U Q : Nat → Int) : Prop where
  c0 : wc.cell? ⟨bx, 0, none⟩ = some (.int .i64 T)
  c1 : wc.cell? ⟨bx, 1, none⟩ = some (.int .i64 P)
  c2 : wc.cell? ⟨bx, 2, none⟩ = some (.slice (some ⟨b, 0, none⟩) n n)
  c3 : wc.cell? ⟨bx, 3, none⟩ = some (.slice (some ⟨d, 0, none⟩) m m)
  lt : bx < wc.heap.size
  hr : Row wc b 43 (n * 12) U
  hq : Row wc d 73 (m * 2) Q
theorem Xw.on {wc w' : World} {bx n m b d : Nat} {T P : Int} {U Q : Nat → Int} (h : Xw wc bx T P n m b d U Q) (hb : Below wc.heap.size wc w') : Xw w' bx T P n m b d U Q :=
  ⟨(hb.cell (p := ⟨bx, 0, none⟩) h.lt).trans h.c0, (hb.cell (p := ⟨bx, 1, none⟩) h.lt).trans h.c1, (hb.cell (p := ⟨bx, 2, none⟩) h.lt).trans h.c2, (hb.cell (p := ⟨bx, 3, none⟩) h.lt).trans h.c3, Nat.lt_of_lt_of_le h.lt hb.size, h.hr.below hb, h.hq.below hb⟩
end Go.Proofs.Ythekeeagjokpeaa
namespace Go.Proofs.Ythekeeagjokpeaa
open Go.RowKit
set_option linter.unusedVariables false
set_option linter.unusedSimpArgs false

/-- a number, or 0 where it may not be -/
def bb (o : Bool) (x : Int) : Int := if o = true then x else 0
theorem bb_t (x : Int) : bb true x = x := rfl
theorem bb_f (x : Int) : bb false x = 0 := rfl

end Go.Proofs.Ythekeeagjokpeaa
namespace Go.Proofs.Ythekeeagjokpeaa
open Go.RowKit
set_option linter.unusedVariables false
set_option linter.unusedSimpArgs false

theorem l3Less_any (x y : Int) (w : World) :
    Calls Try.prog 77 #[.int .i64 x, .int .i64 y] w fun e w' => e = .returned (.int .i64 (mn x y)) ∧ w' = w := by
  go_enter Try.func77, Try.ntmps77
  go_wp2
  all_goals
    go_ret
    refine ⟨?_, rfl⟩
    unfold mn
    split <;> first | rfl | (exfalso; omega) | (have hxy : x = y := (by omega); subst hxy; rfl) | (exfalso; simp at *; omega)

theorem l3More_any (x y : Int) (w : World) :
    Calls Try.prog 78 #[.int .i64 x, .int .i64 y] w fun e w' => e = .returned (.int .i64 (mx x y)) ∧ w' = w := by
  go_enter Try.func78, Try.ntmps78
  go_wp2
  all_goals
    go_ret
    refine ⟨?_, rfl⟩
    unfold mx
    split <;> first | rfl | (exfalso; omega) | (have hxy : x = y := (by omega); subst hxy; rfl) | (exfalso; simp at *; omega)

end Go.Proofs.Ythekeeagjokpeaa
namespace Go.Proofs.Ythekeeagjokpeaa
open Go.RowKit
set_option linter.unusedVariables false
set_option linter.unusedSimpArgs false

end Go.Proofs.Ythekeeagjokpeaa
namespace Go.Proofs.Ythekeeagjokpeaa
open Go.RowKit
set_option linter.unusedVariables false
set_option linter.unusedSimpArgs false

/-- how two that are round touch: the way, how deep, and whether they do -/
def rdT (dx dy g : Int) : (Int × Int × Int) × Bool := if dx * dx + dy * dy ≤ g * g then ((ux dx dy, uy dx dy, g - vl dx dy), true) else ((0, 0, 0), false)
/-- the side on which it is least deep -/
def bsT (s0 s1 s2 s3 : Int) : Int × Int × Int :=
  let m1 : Int × Int × Int := if s1 < s0 then (-256, 0, s1) else (256, 0, s0)
  let m2 : Int × Int × Int := if s2 < m1.2.2 then (0, 256, s2) else m1
  if s3 < m2.2.2 then (0, -256, s3) else m2
def bxT (a b c d r s t u : Int) : (Int × Int × Int) × Bool := if (leB a b t u && leB r s c d) = true then (bsT (c - r) (t - a) (d - s) (u - b), true) else ((0, 0, 0), false)

end Go.Proofs.Ythekeeagjokpeaa
namespace Go.Proofs.Ythekeeagjokpeaa
open Go.RowKit
set_option linter.unusedVariables false
set_option linter.unusedSimpArgs false

def mxT (a b c d x y g : Int) : (Int × Int × Int) × Bool := if ptB a b c d x y = true then (((bsT (c - x) (x - a) (d - y) (y - b)).1, (bsT (c - x) (x - a) (d - y) (y - b)).2.1, (bsT (c - x) (x - a) (d - y) (y - b)).2.2 + g), true) else rdT (x - mn (mx x a) c) (y - mn (mx y b) d) g
theorem bsT_bd {s0 s1 s2 s3 B : Int} (h0 : -B ≤ s0 ∧ s0 ≤ B) (h1 : -B ≤ s1 ∧ s1 ≤ B) (h2 : -B ≤ s2 ∧ s2 ≤ B) (h3 : -B ≤ s3 ∧ s3 ≤ B) : -B ≤ (bsT s0 s1 s2 s3).2.2 ∧ (bsT s0 s1 s2 s3).2.2 ≤ B ∧ (-256 ≤ (bsT s0 s1 s2 s3).1 ∧ (bsT s0 s1 s2 s3).1 ≤ 256) ∧ (-256 ≤ (bsT s0 s1 s2 s3).2.1 ∧ (bsT s0 s1 s2 s3).2.1 ≤ 256) := by
  unfold bsT
  by_cases a : s1 < s0
  · simp only [if_pos a]
    by_cases b : s2 < s1
    · simp only [if_pos b]
      by_cases c : s3 < s2
      · simp only [if_pos c]; omega
      · simp only [if_neg c]; omega
    · simp only [if_neg b]
      by_cases c : s3 < s1
      · simp only [if_pos c]; omega
      · simp only [if_neg c]; omega
  · simp only [if_neg a]
    by_cases b : s2 < s0
    · simp only [if_pos b]
      by_cases c : s3 < s2
      · simp only [if_pos c]; omega
      · simp only [if_neg c]; omega
    · simp only [if_neg b]
      by_cases c : s3 < s0
      · simp only [if_pos c]; omega
      · simp only [if_neg c]; omega
theorem near_in {a c x B : Int} (ha : -B ≤ a ∧ a ≤ B) (hc : -B ≤ c ∧ c ≤ B) (hx : -B ≤ x ∧ x ≤ B) : -B ≤ mn (mx x a) c ∧ mn (mx x a) c ≤ B := by
  unfold mn mx; repeat' split <;> omega

end Go.Proofs.Ythekeeagjokpeaa
namespace Go.Proofs.Ythekeeagjokpeaa
open Go.RowKit
set_option linter.unusedVariables false
set_option linter.unusedSimpArgs false

theorem ux_bd2 {x y : Int} (hx : -6000000 ≤ x ∧ x ≤ 6000000) : -1600000000 ≤ ux x y ∧ ux x y ≤ 1600000000 := by
  unfold ux; split
  · omega
  · have := tdiv_bd (x := x * 256) (B := 1600000000) (vl x y) (by omega); exact this
theorem uy_bd2 {x y : Int} (hy : -6000000 ≤ y ∧ y ≤ 6000000) : -1600000000 ≤ uy x y ∧ uy x y ≤ 1600000000 := by
  unfold uy; split
  · omega
  · have := tdiv_bd (x := y * 256) (B := 1600000000) (vl x y) (by omega); exact this
theorem mxT_bd {a b c d x y g X Y D : Int} {K : Bool} (qa : -3000000 ≤ a ∧ a ≤ 3000000) (qb : -3000000 ≤ b ∧ b ≤ 3000000) (qc : -3000000 ≤ c ∧ c ≤ 3000000) (qd : -3000000 ≤ d ∧ d ≤ 3000000) (qx : -3000000 ≤ x ∧ x ≤ 3000000) (qy : -3000000 ≤ y ∧ y ≤ 3000000) (e : mxT a b c d x y g = ((X, Y, D), K)) :
    (-1600000000 ≤ X ∧ X ≤ 1600000000) ∧ (-1600000000 ≤ Y ∧ Y ≤ 1600000000) := by
  unfold mxT at e
  split at e
  · have hb := bsT_bd (s0 := c - x) (s1 := x - a) (s2 := d - y) (s3 := y - b) (B := 6000000) (by omega) (by omega) (by omega) (by omega)
    simp only [Prod.mk.injEq] at e
    obtain ⟨⟨eX, eY, eD⟩, eK⟩ := e
    omega
  · have n1 := near_in (a := a) (c := c) (x := x) (B := 3000000) (by omega) (by omega) (by omega)
    have n2 := near_in (a := b) (c := d) (x := y) (B := 3000000) (by omega) (by omega) (by omega)
    unfold rdT at e
    split at e
    · simp only [Prod.mk.injEq] at e
      obtain ⟨⟨eX, eY, eD⟩, eK⟩ := e
      have h1 := ux_bd2 (x := x - mn (mx x a) c) (y := y - mn (mx y b) d) (by omega)
      have h2 := uy_bd2 (x := x - mn (mx x a) c) (y := y - mn (mx y b) d) (by omega)
      omega
    · simp only [Prod.mk.injEq] at e
      obtain ⟨⟨eX, eY, eD⟩, eK⟩ := e
      omega
def tnT (m : (Int × Int × Int) × Bool) : (Int × Int × Int) × Bool := if m.2 = true then ((-m.1.1, -m.1.2.1, m.1.2.2), true) else ((0, 0, 0), false)

end Go.Proofs.Ythekeeagjokpeaa
namespace Go.Proofs.Ythekeeagjokpeaa
open Go.RowKit
set_option linter.unusedVariables false
set_option linter.unusedSimpArgs false

def tcT (k1 g1 h1 x y k2 g2 h2 u v : Int) : (Int × Int × Int) × Bool :=
  if k1 = 1 then (if k2 = 1 then rdT (u - x) (v - y) (g1 + g2) else tnT (mxT (u - g2) (v - h2) (u + g2) (v + h2) x y g1))
  else (if k2 = 1 then mxT (x - g1) (y - h1) (x + g1) (y + h1) u v g2 else bxT (x - g1) (y - h1) (x + g1) (y + h1) (u - g2) (v - h2) (u + g2) (v + h2))
def toT (k1 g1 h1 x y k2 g2 h2 u v : Int) : (Int × Int × Int) × Bool := if (shB k1 g1 h1 && (shB k2 g2 h2 && (inB 2560000 x y && inB 2560000 u v))) = true then tcT k1 g1 h1 x y k2 g2 h2 u v else ((0, 0, 0), false)
theorem sShapeOk_z (k g h : Int) (b : Bool) (w : World) (e : shB k g h = b) : Calls Try.prog 43 #[s3 k g h] w fun e w' => e = .returned (.bool b) ∧ Below w.heap.size w w' := by
  subst e; exact sShapeOk_any k g h w
theorem l3Place_z (x y : Int) (b : Bool) (w : World) (e : inB 2560000 x y = b) : Calls Try.prog 44 #[vv x y] w fun e w' => e = .returned (.bool b) ∧ Below w.heap.size w w' := by
  subst e; exact l3Place_any x y w
theorem shB_kinds {k g h : Int} (e : shB k g h = true) : (k = 1 ∧ h = 0 ∧ 1 ≤ g ∧ g ≤ 25600) ∨ (k = 2 ∧ 1 ≤ g ∧ g ≤ 25600 ∧ 1 ≤ h ∧ h ≤ 25600) := by
  unfold shB rdB bxB at e; simp only [Bool.or_eq_true, decide_eq_true_eq] at e; omega
end Go.Proofs.Ythekeeagjokpeaa
namespace Go.Proofs.Ythekeeagjokpeaa
open Go.RowKit
set_option linter.unusedVariables false
set_option linter.unusedSimpArgs false
/-- how the bodies of rows i and k touch -/
def tcH (C : Nat → Nat → Int) (i k : Nat) : (Int × Int × Int) × Bool := toT (C 1 i) (C 2 i) (C 3 i) (C 4 i) (C 5 i) (C 1 k) (C 2 k) (C 3 k) (C 4 k) (C 5 k)
def conB (C : Nat → Nat → Int) (i k : Nat) : Bool := decide (i < k) && (!(decide (C 8 i = 0) && decide (C 8 k = 0)) && (tcH C i k).2)
def conOne (C : Nat → Nat → Int) (i k : Nat) : List Int := if conB C i k = true then [(i : Int), (k : Int), (tcH C i k).1.1, (tcH C i k).1.2.1, (tcH C i k).1.2.2] else []
def conIn (C : Nat → Nat → Int) (i : Nat) : Nat → List Int
  | 0 => []
  | k + 1 => conIn C i k ++ conOne C i k
def conOut (C : Nat → Nat → Int) (n : Nat) : Nat → List Int
  | 0 => []
  | i + 1 => conOut C n i ++ conIn C i n
/-- all contacts of n bodies -/
def conL (C : Nat → Nat → Int) (n : Nat) : List Int := conOut C n n
theorem conOne_len (C : Nat → Nat → Int) (i k : Nat) : ∃ m, (conOne C i k).length = m * 5 ∧ m ≤ 1 := by
  unfold conOne
  split
  · exact ⟨1, rfl, Nat.le_refl _⟩
  · exact ⟨0, rfl, by omega⟩
theorem conIn_len (C : Nat → Nat → Int) (i : Nat) : ∀ k, ∃ m, (conIn C i k).length = m * 5 ∧ m ≤ k
  | 0 => ⟨0, rfl, Nat.le_refl _⟩
  | k + 1 => by
    obtain ⟨m, h1, h2⟩ := conIn_len C i k
    obtain ⟨m', h3, h4⟩ := conOne_len C i k
    exact ⟨m + m', by rw [conIn, List.length_append, h1, h3]; omega, by omega⟩
theorem conOut_len (C : Nat → Nat → Int) (n : Nat) : ∀ i, ∃ m, (conOut C n i).length = m * 5 ∧ m ≤ i * n
  | 0 => ⟨0, rfl, by omega⟩
  | i + 1 => by
    obtain ⟨m, h1, h2⟩ := conOut_len C n i
    obtain ⟨m', h3, h4⟩ := conIn_len C i n
    exact ⟨m + m', by rw [conOut, List.length_append, h1, h3]; omega, by rw [Nat.succ_mul]; omega⟩
theorem conB_ge {C : Nat → Nat → Int} {i k : Nat} (h : k ≤ i) : conB C i k = false := by
  unfold conB
  rw [decide_eq_false (by omega)]
  rfl
theorem conOne_no {C : Nat → Nat → Int} {i k : Nat} (h : conB C i k = false) : conOne C i k = [] := by
  unfold conOne
  rw [h]
  rfl
theorem conOne_yes {C : Nat → Nat → Int} {i k : Nat} {X Y D : Int} (h : conB C i k = true) (e : tcH C i k = ((X, Y, D), true)) : conOne C i k = [(i : Int), (k : Int), X, Y, D] := by
  unfold conOne
  rw [if_pos h, e]
theorem conB_yes {C : Nat → Nat → Int} {i k : Nat} {X Y D : Int} (h : i < k) (hf : ¬ (C 8 i = 0 ∧ C 8 k = 0)) (e : tcH C i k = ((X, Y, D), true)) : conB C i k = true := by
  unfold conB
  rw [e, decide_eq_true h]
  by_cases e1 : C 8 i = 0
  · have e2 : ¬ C 8 k = 0 := fun q => hf ⟨e1, q⟩
    simp [e2]
  · simp [e1]
/-- nothing touches one that does not stand behind -/
theorem conIn_ge {C : Nat → Nat → Int} (i : Nat) : ∀ k, k ≤ i + 1 → conIn C i k = []
  | 0, _ => rfl
  | k + 1, h => by rw [conIn, conIn_ge i k (by omega), conOne_no (conB_ge (by omega))]; rfl
/-- a list of things of k numbers, in a variable at lb; nothing else has changed since w2 -/
structure LsAt (w2 W : World) (lb t k : Nat) (a : Option Addr) (m c : Nat) (l : List Int) : Prop where
  fr : Fr (fun b => b = lb) w2 W
  box : W.cell? ⟨lb, 0, none⟩ = some (.slice a m c)
  nf : W.frozen? ⟨lb, 0, none⟩ = false
  len : l.length = m * k
  own : OwnL W w2.heap.size t k (.slice a m c) m (ofL l)
theorem Fr.sm {X : Nat → Prop} {w2 W W' : World} {B : Nat} (h : Fr X w2 W) (hs : Sm B W W') (hB : w2.heap.size ≤ B) : Fr X w2 W' :=
  ⟨hs.below.os.trans h.os, hs.below.tape.trans h.tape, hs.below.output.trans h.output, Nat.le_trans h.size hs.size, fun k hk hn => (hs.below.block k (by omega)).trans (h.block k hk hn), fun k o hk ho => (hs.below.block k (by have := (Array.getElem?_eq_some_iff.1 hk).1; omega)).trans (h.kind k o hk ho)⟩
theorem LsAt.sm {w2 W W' : World} {B lb t k m c : Nat} {a : Option Addr} {l : List Int} (h : LsAt w2 W lb t k a m c l) (hs : Sm B W W') (hB : w2.heap.size ≤ B) : LsAt w2 W' lb t k a m c l :=
  ⟨h.fr.sm hs hB, hs.cell h.box, hs.frozen h.box h.nf, h.len, h.own.sm hs⟩
theorem LsAt.below {w2 W W' : World} {lb t k m c : Nat} {a : Option Addr} {l : List Int} (h : LsAt w2 W lb t k a m c l) (hs : Below W.heap.size W W') : LsAt w2 W' lb t k a m c l := h.sm (Sm.of_below hs (Nat.le_refl _)) h.fr.size
theorem LsAt.start {w2 : World} {lb t k : Nat} (h : w2.cell? ⟨lb, 0, none⟩ = some (.slice none 0 0)) (hf : w2.frozen? ⟨lb, 0, none⟩ = false) : LsAt w2 w2 lb t k none 0 0 [] :=
  ⟨Fr.refl _ _, h, hf, by simp, OwnL.nil _ _ _ _ _⟩
/-- the list, and what lies below the variable's world -/
theorem LsAt.keeps {w2 W W1 : World} {lb t k m c m' c' : Nat} {a a' : Option Addr} {l : List Int} (h : LsAt w2 W lb t k a m c l) (hlb : lb < w2.heap.size) (hg : W.grownBy W1 (Value.slice a m c).ownBlock) :
    Fr (fun b => b = lb ∨ (Value.slice a m c).ownBlock = some b) W (W1.setCell ⟨lb, 0, none⟩ (.slice a' m' c')) :=
  (Fr.grown hg (fun b hb => .inr hb) h.own.isCells).trans (Fr.setCell (.inl rfl) _)
theorem LsAt.push {w2 W W1 : World} {lb t k m c : Nat} {a a' : Option Addr} {c' : Nat} {l x : List Int} (h : LsAt w2 W lb t k a m c l) (hlb : lb < w2.heap.size) (hx : x.length = k) (hg : W.grownBy W1 (Value.slice a m c).ownBlock)
    (ho : OwnL W1 w2.heap.size t k (.slice a' (m + 1) c') (m + 1) (cat (m * k) (ofL l) (ofL x))) : LsAt w2 (W1.setCell ⟨lb, 0, none⟩ (.slice a' (m + 1) c')) lb t k a' (m + 1) c' (l ++ x) := by
  have hne : ∀ b, (Value.slice a m c).ownBlock = some b → b ≠ lb := fun b hb => by have := (h.own.lt b hb).1; omega
  have hl : lb < W.heap.size := Nat.lt_of_lt_of_le hlb h.fr.size
  have hb1 : W1.heap[lb]? = W.heap[lb]? := hg.block lb hl (fun e => hne lb e.symm rfl)
  refine ⟨(h.fr.trans' (Fr.grown (X := fun b => (Value.slice a m c).ownBlock = some b) hg (fun b hb => hb) h.own.isCells) (fun i hi e => by have := (h.own.lt i e).1; omega)).trans (Fr.setCell (X := fun b => b = lb) rfl _), cset_same ((World.cell?_of_block (a := ⟨lb, 0, none⟩) hb1).trans h.box), ?_, by rw [List.length_append, h.len, hx, Nat.succ_mul], ?_⟩
  · rw [World.frozen?_setCell]; exact (World.frozen?_of_block (a := ⟨lb, 0, none⟩) hb1).trans h.nf
  · rw [← cat_ofL, h.len]
    refine OwnL.frame (X := fun b => b = lb) ho (Fr.setCell (X := fun b => b = lb) rfl _) (fun b hb e => ?_)
    have := (ho.lt b hb).1
    omega
theorem _root_.Go.KeepsFrom.sm {B B' : Nat} {W X X' : World} (h : KeepsFrom B W X) (hs : Sm B' X X') (hB : W.heap.size ≤ B') : KeepsFrom B W X' :=
  ⟨Nat.le_trans h.size hs.size, fun k o hk h0 ho => (hs.below.block k (by have := (Array.getElem?_eq_some_iff.1 h0).1; omega)).trans (h.same k o hk h0 ho)⟩
end Go.Proofs.Ythekeeagjokpeaa
namespace Go.Proofs.Ythekeeagjokpeaa
open Go.RowKit
set_option linter.unusedVariables false
set_option linter.unusedSimpArgs false
/-- a list that a function makes, in its own memory -/
structure LsV (w wr : World) (t k : Nat) (a : Option Addr) (m c : Nat) (l : List Int) : Prop where
  bel : Below w.heap.size w wr
  len : l.length = m * k
  own : OwnL wr w.heap.size t k (.slice a m c) m (ofL l)
theorem LsV.below {w wr w' : World} {t k m c : Nat} {a : Option Addr} {l : List Int} (h : LsV w wr t k a m c l) (hb : Below wr.heap.size wr w') : LsV w w' t k a m c l := ⟨h.bel.trans (hb.mono h.bel.size), h.len, h.own.below hb⟩
theorem LsV.push {w wr w1 : World} {t k m c c' : Nat} {a a' : Option Addr} {l x : List Int} (h : LsV w wr t k a m c l) (hx : x.length = k) (hg : wr.grownBy w1 (Value.slice a m c).ownBlock) (ho : OwnL w1 w.heap.size t k (.slice a' (m + 1) c') (m + 1) (cat (m * k) (ofL l) (ofL x))) : LsV w w1 t k a' (m + 1) c' (l ++ x) :=
  ⟨h.bel.grown hg h.bel.size (fun b e => (h.own.lt b e).1), by rw [List.length_append, h.len, hx, Nat.succ_mul], by rw [← cat_ofL, h.len]; exact ho⟩
theorem LsV.new (w : World) (t k : Nat) : LsV w (w.alloc (.cells #[] t)) t k (some ⟨w.heap.size, 0, none⟩) 0 0 [] :=
  ⟨(Below.refl _ _).alloc (Nat.le_refl _) _, by simp, ⟨by simp [numL], .inr ⟨w.heap.size, 0, #[], rfl, Nat.le_refl _, Go.Deep.blk_alloc_new _ _, Nat.le_refl _, Nat.zero_le _, by simp, by simp [numL]⟩⟩⟩
theorem LsV.newAt (w : World) (t k s : Nat) (e : w.heap.size = s) : LsV w (w.alloc (.cells #[] t)) t k (some ⟨s, 0, none⟩) 0 0 [] := by subst e; exact LsV.new w t k
theorem LsV.nil (w : World) (t k : Nat) : LsV w w t k none 0 0 [] := ⟨Below.refl _ _, by simp, OwnL.nil _ _ _ _ _⟩
theorem LsV.out {w0 w wr : World} {t k m c : Nat} {a : Option Addr} {l : List Int} (h : LsV w wr t k a m c l) (hb : Below w0.heap.size w0 w) : OutL w0 wr t k a m c (ofL l) := ⟨hb.trans (h.bel.mono hb.size), h.own.base hb.size⟩
theorem flat1 (w : World) (p : Int) (t : TypeId) : Flat (w.alloc (Obj.cells #[.int .i64 p] t)) (some ⟨w.heap.size, 0, none⟩) (1 * 1) (ofL [p]) := by
  intro _
  refine ⟨w.heap.size, 0, rfl, by simp, fun j hj => ?_⟩
  rw [Nat.zero_add]
  obtain rfl : j = 0 := by omega
  simp only [ofL]; go_simp; (try rfl)
end Go.Proofs.Ythekeeagjokpeaa
namespace Go.Proofs.Ythekeeagjokpeaa
open Go.RowKit
set_option linter.unusedVariables false
set_option linter.unusedSimpArgs false
/-- whether what has the numbers V touches the body of row k -/
def touchB (V L : Nat → Int) (k : Nat) : Bool := (toT (V 1) (V 2) (V 3) (V 4) (V 5) (L (k * 12 + 1)) (L (k * 12 + 2)) (L (k * 12 + 3)) (L (k * 12 + 4)) (L (k * 12 + 5))).2
/-- the first k of a list awake that touch; row s is passed by -/
def wakeR (V L : Nat → Int) (s k : Nat) : Nat → Int := fun q => if q < k * 12 ∧ q % 12 = 11 ∧ q / 12 ≠ s ∧ touchB V L (q / 12) = true ∧ L q = 8 then 0 else L q
theorem wakeR_0 (V L : Nat → Int) (s : Nat) : wakeR V L s 0 = L := by funext q; unfold wakeR; rw [if_neg (by omega)]
theorem wakeR_row (V L : Nat → Int) (s k j : Nat) : wakeR V L s k (k * 12 + j) = L (k * 12 + j) := by unfold wakeR; rw [if_neg (by omega)]
theorem wakeR_no {V L : Nat → Int} {s k : Nat} (h : ¬ (k ≠ s ∧ touchB V L k = true ∧ L (k * 12 + 11) = 8)) : wakeR V L s (k + 1) = wakeR V L s k := by
  funext q
  unfold wakeR
  by_cases e : q = k * 12 + 11
  · subst e
    have d : (k * 12 + 11) / 12 = k := by omega
    rw [d, if_neg (fun x => h ⟨x.2.2.1, x.2.2.2.1, x.2.2.2.2⟩), if_neg (by omega)]
  · by_cases l : q < k * 12
    · by_cases c : q % 12 = 11 ∧ q / 12 ≠ s ∧ touchB V L (q / 12) = true ∧ L q = 8
      · rw [if_pos ⟨by omega, c⟩, if_pos ⟨l, c⟩]
      · rw [if_neg (fun x => c x.2), if_neg (fun x => c x.2)]
    · rw [if_neg (fun x => by omega), if_neg (fun x => l x.1)]
theorem wakeR_yes {V L : Nat → Int} {s k : Nat} (h1 : k ≠ s) (h2 : touchB V L k = true) (h3 : L (k * 12 + 11) = 8) : (fun r => if r = k * 12 + 11 then 0 else wakeR V L s k r) = wakeR V L s (k + 1) := by
  funext q
  unfold wakeR
  by_cases e : q = k * 12 + 11
  · subst e
    have d : (k * 12 + 11) / 12 = k := by omega
    rw [d, if_pos rfl, if_pos ⟨by omega, by omega, h1, h2, h3⟩]
  · rw [if_neg e]
    by_cases l : q < k * 12
    · by_cases c : q % 12 = 11 ∧ q / 12 ≠ s ∧ touchB V L (q / 12) = true ∧ L q = 8
      · rw [if_pos ⟨l, c⟩, if_pos ⟨by omega, c⟩]
      · rw [if_neg (fun x => c x.2), if_neg (fun x => c x.2)]
    · rw [if_neg (fun x => l x.1), if_neg (fun x => by have := x.1; have := x.2.1; omega)]
/-- a list without row p -/
def delU (U : Nat → Int) (p : Nat) : Nat → Int := fun q => if q < p * 12 then U q else U (q + 12)
theorem cat_del (U : Nat → Int) (p : Nat) : cat (p * 12) U (fun q => U (q + (p + 1) * 12)) = delU U p := by
  funext q
  unfold cat delU
  by_cases h : q < p * 12
  · rw [if_pos h, if_pos h]
  · rw [if_neg h, if_neg h]
    show U (q - p * 12 + (p + 1) * 12) = U (q + 12)
    rw [show q - p * 12 + (p + 1) * 12 = q + 12 by omega]
theorem del_lo {U : Nat → Int} {p k j : Nat} (h : k < p) (hj : j < 12) : delU U p (k * 12 + j) = U (k * 12 + j) := by unfold delU; rw [if_pos (by omega)]
theorem del_hi {U : Nat → Int} {p k j : Nat} (h : p ≤ k) : delU U p (k * 12 + j) = U ((k + 1) * 12 + j) := by unfold delU; rw [if_neg (by omega), show k * 12 + j + 12 = (k + 1) * 12 + j by omega]
theorem touch_lo {V U : Nat → Int} {p k : Nat} (h : k < p) : touchB V (delU U p) k = touchB V U k := by
  unfold touchB; rw [del_lo h (by omega), del_lo h (by omega), del_lo h (by omega), del_lo h (by omega), del_lo h (by omega)]
theorem touch_hi {V U : Nat → Int} {p k : Nat} (h : p ≤ k) : touchB V (delU U p) k = touchB V U (k + 1) := by
  unfold touchB; rw [del_hi h, del_hi h, del_hi h, del_hi h, del_hi h]
theorem gone_eq (V U : Nat → Int) (p n : Nat) : ∀ q, q < (n - 1) * 12 → wakeR V (delU U p) n (n - 1) q = delU (wakeR V U p n) p q := by
  intro q hq
  by_cases l : q < p * 12
  · have e1 : delU (wakeR V U p n) p q = wakeR V U p n q := by unfold delU; rw [if_pos l]
    have e2 : delU U p q = U q := by unfold delU; rw [if_pos l]
    rw [e1]
    unfold wakeR
    rw [e2, touch_lo (by omega)]
    by_cases c : q % 12 = 11 ∧ touchB V U (q / 12) = true ∧ U q = 8
    · rw [if_pos ⟨by omega, c.1, by omega, c.2.1, c.2.2⟩, if_pos ⟨by omega, c.1, by omega, c.2.1, c.2.2⟩]
    · rw [if_neg (fun x => c ⟨x.2.1, x.2.2.2.1, x.2.2.2.2⟩), if_neg (fun x => c ⟨x.2.1, x.2.2.2.1, x.2.2.2.2⟩)]
  · have e1 : delU (wakeR V U p n) p q = wakeR V U p n (q + 12) := by unfold delU; rw [if_neg l]
    have e2 : delU U p q = U (q + 12) := by unfold delU; rw [if_neg l]
    rw [e1]
    unfold wakeR
    rw [e2, touch_hi (by omega), show (q + 12) % 12 = q % 12 by omega, show (q + 12) / 12 = q / 12 + 1 by omega]
    by_cases c : q % 12 = 11 ∧ touchB V U (q / 12 + 1) = true ∧ U (q + 12) = 8
    · rw [if_pos ⟨by omega, c.1, by omega, c.2.1, c.2.2⟩, if_pos ⟨by omega, c.1, by omega, c.2.1, c.2.2⟩]
    · rw [if_neg (fun x => c ⟨x.2.1, x.2.2.2.1, x.2.2.2.2⟩), if_neg (fun x => c ⟨x.2.1, x.2.2.2.1, x.2.2.2.2⟩)]
/-- pairs of which a body is none -/
def gnB (Q : Nat → Int) (id : Int) (k : Nat) : Bool := !(decide (Q (k * 2) = id) || decide (Q (k * 2 + 1) = id))
def gnL (Q : Nat → Int) (id : Int) : Nat → List Int
  | 0 => []
  | k + 1 => gnL Q id k ++ (if gnB Q id k = true then [Q (k * 2), Q (k * 2 + 1)] else [])
theorem gnL_yes {Q : Nat → Int} {id : Int} {k : Nat} (h : gnB Q id k = true) : gnL Q id (k + 1) = gnL Q id k ++ [Q (k * 2), Q (k * 2 + 1)] := by rw [gnL, if_pos h]
theorem gnL_no {Q : Nat → Int} {id : Int} {k : Nat} (h : gnB Q id k = false) : gnL Q id (k + 1) = gnL Q id k := by rw [gnL, if_neg (by rw [h]; decide), List.append_nil]
theorem gnL_len (Q : Nat → Int) (id : Int) : ∀ k, (gnL Q id k).length ≤ k * 2
  | 0 => by simp [gnL]
  | k + 1 => by
    have := gnL_len Q id k
    cases h : gnB Q id k with
    | true => rw [gnL_yes h, List.length_append]; simp; omega
    | false => rw [gnL_no h]; omega
def goneWA (T P : Int) (n : Nat) (U : Nat → Int) (m : Nat) (Q : Nat → Int) (id : Int) (p : Nat) : WA :=
  bif worldB T P n U m Q then (bif decide (p < n ∧ U (p * 12) = id) then ⟨T, P, n - 1, delU (wakeR (fun j => U (p * 12 + j)) U p n) p, (gnL Q id m).length / 2, ofL (gnL Q id m), 0⟩ else ⟨T, P, n, U, m, Q, 4⟩) else WA.none
theorem flatHead {wz : World} {b o n k : Nat} {U : Nat → Int} (q : Flat wz (some ⟨b, o, none⟩) (n * 12) U) (hk : k < n) : Flat wz (some ⟨b, o, none⟩) (k * 12) U := fun h0 => by
  obtain ⟨b', o', e, l, cc⟩ := q (by omega)
  exact ⟨b', o', e, l, fun q hq => cc q (by omega)⟩
theorem flatTail {wz : World} {b o n k c : Nat} {U : Nat → Int} {at2 : Option Addr} (hat2 : (if c = k + 1 then some (⟨b, o, none⟩ : Addr) else some ⟨b, o + (k + 1) * 12, none⟩) = at2) (hnc : n ≤ c) (q : Flat wz (some ⟨b, o, none⟩) (n * 12) U) : Flat wz at2 ((n - (k + 1)) * 12) (fun q => U (q + (k + 1) * 12)) := fun h0 => by
  obtain ⟨b', o', e, l, cc⟩ := q (by omega)
  simp only [Option.some.injEq, Addr.mk.injEq, and_true] at e
  obtain ⟨rfl, rfl⟩ := e
  refine ⟨b, o + (k + 1) * 12, by rw [← hat2, if_neg (by omega)], l, fun q hq => ?_⟩
  rw [show o + (k + 1) * 12 + q = o + (q + (k + 1) * 12) by omega]
  exact cc _ (by omega)
theorem OwnL.capge {w : World} {base t k n c : Nat} {a : Option Addr} {U : Nat → Int} (h : OwnL w base t k (.slice a n c) n U) : n ≤ c := by
  rcases h.2 with ⟨hv, hn⟩ | ⟨g, cap, cur, hv, hb, hg, h1, h2, _⟩
  · simp only [Value.slice.injEq] at hv; omega
  · simp only [Value.slice.injEq] at hv; omega
/-- the row of a body is in its columns' bounds -/
theorem Vw.top {wc : World} {lo hi bx : Nat} {T P : Int} {a1 : Option Addr} {n c1 : Nat} {U : Nat → Int} {a2 : Option Addr} {m c2 : Nat} {Q : Nat → Int} (h : Vw wc lo hi bx T P a1 n c1 U a2 m c2 Q) : Vw wc lo wc.heap.size bx T P a1 n c1 U a2 m c2 Q :=
  ⟨h.c0, h.c1, h.c2, h.c3, h.nf, h.bl, h.blt, Nat.le_refl _, h.ob, h.op, fun b e => ⟨(h.ob.lt b e).2, (h.t1 b e).2⟩, fun b e => ⟨(h.op.lt b e).2, (h.t2 b e).2⟩⟩
theorem Vw.onT {wc w' : World} {lo bx : Nat} {T P : Int} {a1 : Option Addr} {n c1 : Nat} {U : Nat → Int} {a2 : Option Addr} {m c2 : Nat} {Q : Nat → Int} (h : Vw wc lo wc.heap.size bx T P a1 n c1 U a2 m c2 Q) (hb : Below wc.heap.size wc w') : Vw w' lo w'.heap.size bx T P a1 n c1 U a2 m c2 Q := (h.on hb).top
/-- its pairs are another list -/
theorem Vw.setP {wc w1 : World} {lo bx : Nat} {T P : Int} {a1 : Option Addr} {n c1 : Nat} {U : Nat → Int} {a2 : Option Addr} {m c2 : Nat} {Q : Nat → Int} {a3 : Option Addr} {m3 c3 : Nat} {Q3 : Nat → Int} (h : Vw wc lo wc.heap.size bx T P a1 n c1 U a2 m c2 Q) (hg : wc.grownBy w1 (Value.slice a2 m c2).ownBlock) (ho : OwnL w1 lo 73 2 (.slice a3 m3 c3) m3 Q3)
    (hx : ∀ b, (Value.slice a3 m3 c3).ownBlock = some b → b ≠ bx) : Vw (w1.setCell ⟨bx, 3, none⟩ (.slice a3 m3 c3)) lo w1.heap.size bx T P a1 n c1 U a3 m3 c3 Q3 := by
  have hset := cset_map
  have hF : Fr (fun b => (Value.slice a2 m c2).ownBlock = some b) wc w1 := Fr.grown hg (fun b e => e) h.op.isCells
  have nb : ¬ (Value.slice a2 m c2).ownBlock = some bx := fun e => (h.t2 bx e).2 rfl
  have k := fun o => hF.cell (p := ⟨bx, o, none⟩) h.blt nb
  have kf := fun o => hF.frozen (p := ⟨bx, o, none⟩) h.blt nb
  have z0 := (k 0).trans h.c0
  have z1 := (k 1).trans h.c1
  have z2 := (k 2).trans h.c2
  have z3 := (k 3).trans h.c3
  have zf := fun o => (kf o).trans (h.nf o)
  clear k kf
  have hs : Fr (fun b => b = bx) w1 (w1.setCell ⟨bx, 3, none⟩ (.slice a3 m3 c3)) := Fr.setCell (X := fun b => b = bx) rfl _
  have ob1 := h.ob.frame hF (fun b e x => h.ob.neT h.op (by decide) b e x)
  refine ⟨by go_simp, by go_simp, by go_simp, by go_simp, fun o => by go_simp, h.bl, Nat.lt_of_lt_of_le h.blt hF.size, hs.size, ob1.frame hs (fun b e x => (h.t1 b e).2 x), ho.frame hs (fun b e x => hx b e x), fun b e => ⟨(ob1.lt b e).2, (h.t1 b e).2⟩, fun b e => ⟨(ho.lt b e).2, hx b e⟩⟩
theorem Vw.congrQ {wc : World} {lo hi bx : Nat} {T P : Int} {a1 : Option Addr} {n c1 : Nat} {U : Nat → Int} {a2 : Option Addr} {m c2 : Nat} {Q Q' : Nat → Int} (h : Vw wc lo hi bx T P a1 n c1 U a2 m c2 Q) (e : ∀ q, q < m * 2 → Q q = Q' q) : Vw wc lo hi bx T P a1 n c1 U a2 m c2 Q' :=
  ⟨h.c0, h.c1, h.c2, h.c3, h.nf, h.bl, h.bh, h.le, h.ob, h.op.congr e, h.t1, h.t2⟩
theorem Vw.congrU {wc : World} {lo hi bx : Nat} {T P : Int} {a1 : Option Addr} {n c1 : Nat} {U U' : Nat → Int} {a2 : Option Addr} {m c2 : Nat} {Q : Nat → Int} (h : Vw wc lo hi bx T P a1 n c1 U a2 m c2 Q) (e : ∀ q, q < n * 12 → U q = U' q) : Vw wc lo hi bx T P a1 n c1 U' a2 m c2 Q :=
  ⟨h.c0, h.c1, h.c2, h.c3, h.nf, h.bl, h.bh, h.le, h.ob.congr e, h.op, h.t1, h.t2⟩
theorem wpList_appk {P : Program} {ops : Array Oper} {o : Oper} {a : Act} {w : World} {Q : Exit → Act → World → Prop} {rest : List Oper} (hgd : o.guard = none) (s x : Operand) (t : TypeId)
    (ho : o.op = .call { callee := .builtin .append, args := #[s, x], argTypes := #[t, t] })
    (base e k bytes : Nat) (z : Value) (ht : P.underlying t = some (.slice e)) (hinfo : (P.info? e).map (fun i => (i.zero, i.size, i.bytes)) = some (some z, k, bytes)) (hzs : z.cells.size = k) (hk : 0 < k)
    (v : Value) (n : Nat) (U : Nat → Int) (hs : a.eval s = v) (h : OwnL w base e k v n U) (B c : Nat) (X : Nat → Int) (hx : a.eval x = .slice (some ⟨B, 0, none⟩) 1 c) (hv : ∀ q, q < k → w.cell? ⟨B, q, none⟩ = some (.int .i64 (X q)))
    (h63 : n + 1 ≤ maxLen) (hbytes : (n + 1) * bytes ≤ 140737488355328) (hbase : base ≤ w.heap.size) (H : Nat) (hH : w.heap.size = H)
    (hK : ∀ g cap w', OwnL w' base e k (.slice (some ⟨g, 0, none⟩) (n + 1) cap) (n + 1) (cat (n * k) U X) → w.grownBy w' v.ownBlock → (v.ownBlock = some g ∨ g = H) → g < w'.heap.size → wpList P ops Q rest (a.put o.dst (.slice (some ⟨g, 0, none⟩) (n + 1) cap)) w') : wpList P ops Q (o :: rest) a w :=
  wpList_plain hgd fun K hK' => by
    have q := step_appk (ops := ops) (K := K) (Q := Q) (E := True) hgd s x t ho base e k bytes z ht hinfo hzs hk v n U hs h B c X hx hv h63 hbytes hbase H hH (fun g cap w' h1 h2 h3 h4 => hK' _ _ (hK g cap w' h1 h2 h3 h4))
    rwa [if_pos (by simp [Region.wanted, hgd])] at q
end Go.Proofs.Ythekeeagjokpeaa
namespace Go.Proofs.Ythekeeagjokpeaa
open Go.RowKit
set_option linter.unusedVariables false
set_option linter.unusedSimpArgs false
/-- a body put in at place i -/
def insU (U : Nat → Int) (i : Nat) (V : Nat → Int) : Nat → Int := fun q => if q < i * 12 then U q else if q < i * 12 + 12 then V (q - i * 12) else U (q - 12)
theorem insU_end (U V : Nat → Int) (n : Nat) : ∀ q, q < (n + 1) * 12 → cat (n * 12) U V q = insU U n V q := by
  intro q hq
  unfold cat insU
  by_cases h : q < n * 12
  · rw [if_pos h, if_pos h]
  · rw [if_neg h, if_neg h, if_pos (by omega)]
theorem list3 {α : Type} (L C : List α) (o q : Nat) (h : o + C.length ≤ L.length) (hq : q < L.length) : (L.take o ++ C ++ L.drop (o + C.length))[q]? = if o ≤ q ∧ q < o + C.length then C[q - o]? else L[q]? := by
  by_cases h1 : q < o
  · rw [if_neg (by omega), List.append_assoc, List.getElem?_append_left (by simp; omega), List.getElem?_take_of_lt h1]
  · by_cases h2 : q < o + C.length
    · rw [if_pos ⟨by omega, h2⟩, List.getElem?_append_left (by simp; omega), List.getElem?_append_right (by simp; omega)]
      congr 1
      simp
      omega
    · rw [if_neg (by omega), List.getElem?_append_right (by simp; omega), List.getElem?_drop]
      congr 1
      simp
      omega
theorem numL_one (m : Nat) (U : Nat → Int) : ∀ v ∈ numL m U, v.oneCell' = true := fun v hv => by
  obtain ⟨q, _, rfl⟩ := List.mem_map.1 hv
  rfl
/-- COPY of numbers, things of any size, into a row that is known whole -/
theorem run_copy_num {P : Program} (w : World) (dT sT ty elem : TypeId) (k g o dLen dCap : Nat) (a : Addr) (sLen sCap : Nat) (cur : Array Value) (t : TypeId) (X : Nat → Int) (L : Nat)
    (hu : P.underlying dT = some (.slice elem)) (hs : (P.info? elem).map (·.size) = some k) (hg : w.heap[g]? = some (.cells cur t (0, 0))) (hL : Nat.min sLen dLen = L)
    (hsrc : ∀ j, j < L * k → w.cell? (a.add j) = some (.int .i64 (X j))) (hfit : o + L * k ≤ cur.size) :
    ∃ cur' : Array Value, (Builtin.copy_ #[dT, sT] ty #[.slice (some ⟨g, o, none⟩) dLen dCap, .slice (some a) sLen sCap]).run P w = .ok (goInt L) (w.setRow g cur') ∧ cur'.size = cur.size ∧
      (w.setRow g cur').heap[g]? = some (.cells cur' t (0, 0)) ∧ ∀ q, q < cur.size → cur'[q]? = (if o ≤ q ∧ q < o + L * k then some (.int .i64 (X (q - o))) else cur[q]?) := by
  have hl := run_loadCells_list (P := P) w a (numL (L * k) X) (fun j v hj => by
    have hj' : j < L * k := by have := (List.getElem?_eq_some_iff.1 hj).1; rwa [numL_len] at this
    rw [numL_get hj'] at hj
    rw [hsrc j hj', hj])
  have hst := run_storeCells_at (P := P) g o t (numL (L * k) X) 0 cur w hg (by rw [numL_len]; simpa using hfit) (numL_one _ _)
  rw [numL_len] at hl
  refine ⟨(cur.toList.take o ++ numL (L * k) X ++ cur.toList.drop (o + (numL (L * k) X).length)).toArray, ?_, ?_, setRow_heap w g cur _ t _ hg, ?_⟩
  · cases hq : P.info? elem with
    | none => simp [hq] at hs
    | some i =>
      have hi : i.size = k := by simpa [hq] using hs
      simp [Builtin.copy_, run_underlying hu, Builtin.lenOf, Builtin.firstCells, sizeOf, typeInfo, hq, hi, hL, hl, hst]
  · simp [numL_len]; omega
  · intro q hq
    rw [List.getElem?_toArray, list3 cur.toList (numL (L * k) X) o q (by rw [numL_len]; simpa using hfit) (by simpa using hq), numL_len]
    by_cases h : o ≤ q ∧ q < o + L * k
    · rw [if_pos h, if_pos h, numL_get (by omega)]
    · rw [if_neg h, if_neg h]; simp
theorem own_cells {w : World} {base t k n g cap : Nat} {cur : Array Value} {U : Nat → Int} (hg : w.heap[g]? = some (.cells cur t (0, 0))) (hb : base ≤ g) (hn : n ≤ cap) (hc : cap ≤ maxLen) (hs : cur.size = cap * k) (hv : ∀ q, q < n * k → cur[q]? = some (.int .i64 (U q))) : OwnL w base t k (.slice (some ⟨g, 0, none⟩) n cap) n U := by
  have hle : n * k ≤ cap * k := Nat.mul_le_mul_right k hn
  refine ⟨numL_len _ _, .inr ⟨g, cap, cur, rfl, hb, hg, hn, hc, hs, ?_⟩⟩
  apply List.ext_getElem?
  intro q
  by_cases h : q < n * k
  · rw [numL_get h, List.getElem?_take_of_lt h, ← hv q h]; simp
  · rw [List.getElem?_eq_none (by simp; omega), List.getElem?_eq_none (by rw [numL_len]; omega)]
theorem cells_own {w : World} {base t k n g c : Nat} {U : Nat → Int} (h : OwnL w base t k (.slice (some ⟨g, 0, none⟩) n c) n U) : ∃ cur : Array Value, w.heap[g]? = some (.cells cur t (0, 0)) ∧ base ≤ g ∧ n ≤ c ∧ c ≤ maxLen ∧ cur.size = c * k ∧ ∀ q, q < n * k → cur[q]? = some (.int .i64 (U q)) := by
  rcases h.2 with ⟨hv, hn⟩ | ⟨g', cap, cur, hv, hb, hg, h1, h2, h3, h4⟩
  · simp at hv
  · simp only [Value.slice.injEq, Option.some.injEq, Addr.mk.injEq, and_true, true_and] at hv
    obtain ⟨rfl, rfl⟩ := hv
    refine ⟨cur, hg, hb, h1, h2, h3, fun q hq => ?_⟩
    have := congrArg (·[q]?) h4
    simp only [List.getElem?_take_of_lt hq, numL_get hq] at this
    simpa using this
theorem grown_setRow (w : World) (g : Nat) (cs : Array Value) : w.grownBy (w.setRow g cs) (some g) := ⟨rfl, rfl, rfl, by simp [World.setRow], fun k hk hn => setRow_other w g k cs (fun e => hn (by rw [e]))⟩
theorem grown_setRowD (w : World) (g : Nat) (cs : Array Value) : w.grownBy (w.drew.setRow g cs) (some g) :=
  have q := grown_setRow w.drew g cs
  ⟨q.os, q.tape, q.output, q.size, q.block⟩
section
variable {P : Program} {ops : Array Oper} {o : Oper} {a : Act} {w : World} {Q : Exit → Act → World → Prop}
theorem wp_copyR {K : Act → World → Prop} (d s : Operand) (t t' : TypeId) (ho : o.op = .call { callee := .builtin .copy, args := #[d, s], argTypes := #[t, t'] }) (v u : Value) (hd : a.eval d = v) (hs : a.eval s = u) {v' : Value} {w' : World}
    (hr : (Builtin.copy_ #[t, t'] o.type #[v, u]).run P w = .ok v' w') (h : K (a.put o.dst v') w') : Oper.wp P o a w K Q := by
  unfold Oper.wp
  simp [execOp, ho, resolve, invoke, builtin, hd, hs, hr, Result.andThen]
  exact h
theorem wpList_copyR {rest : List Oper} (hgd : o.guard = none) (d s : Operand) (t t' : TypeId) (ho : o.op = .call { callee := .builtin .copy, args := #[d, s], argTypes := #[t, t'] }) (v u : Value) (hd : a.eval d = v) (hs : a.eval s = u) {v' : Value} {w' : World}
    (hr : (Builtin.copy_ #[t, t'] o.type #[v, u]).run P w = .ok v' w') (h : wpList P ops Q rest (a.put o.dst v') w') : wpList P ops Q (o :: rest) a w :=
  wpList_plain hgd fun _ hK => wp_copyR d s t t' ho v u hd hs hr (hK _ _ h)
theorem step_copyR {K : Act → World → Prop} {E : Prop} (hgd : o.guard = none) (d s : Operand) (t t' : TypeId) (ho : o.op = .call { callee := .builtin .copy, args := #[d, s], argTypes := #[t, t'] }) (v u : Value) (hd : a.eval d = v) (hs : a.eval s = u) {v' : Value} {w' : World}
    (hr : (Builtin.copy_ #[t, t'] o.type #[v, u]).run P w = .ok v' w') (h : K (a.put o.dst v') w') : if Region.wanted o (yielded ops a.tmps) = true then Oper.wp P o a w K Q else E := by
  rw [if_pos (by simp [Region.wanted, hgd])]
  exact wp_copyR d s t t' ho v u hd hs hr h
end
theorem sizeB (w : World) : (Go.sizeOf 43).run Try.prog w = .ok 12 w := by kernel_rfl
theorem szInfo : (Try.prog.info? 43).map (·.size) = some 12 := by kernel_rfl
/-- what slices.Insert leaves -/
def InsP (w : World) (base : Nat) (a : Option Addr) (n c : Nat) (R : Nat → Int) (e : Ending) (w' : World) : Prop :=
  ∃ a' c', e = .returned (.slice a' (n + 1) c') ∧ OwnL w' base 43 12 (.slice a' (n + 1) c') (n + 1) R ∧ w.grownBy w' (Value.slice a n c).ownBlock ∧ (∀ b, (Value.slice a' (n + 1) c').ownBlock = some b → (Value.slice a n c).ownBlock = some b ∨ w.heap.size ≤ b)
set_option maxRecDepth 20000 in
set_option maxHeartbeats 4000000 in
theorem insert_end (base : Nat) (a : Option Addr) (n c : Nat) (U V : Nat → Int) (vb vc : Nat) (w : World) (h : OwnL w base 43 12 (.slice a n c) n U) (hn : n ≤ 1048576) (hbase : base ≤ w.heap.size)
    (hv : ∀ j, j < 12 → w.cell? ⟨vb, j, none⟩ = some (.int .i64 (V j))) :
    Calls Try.prog 29 #[.slice a n c, .int .i64 (n : Int), .slice (some ⟨vb, 0, none⟩) 1 vc] w fun e w' => InsP w base a n c (insU U n V) e w' := by
  have hcg : n ≤ c := h.le
  have hcg' : (n : Int) ≤ (c : Int) := by omega
  go_enter Try.func29, Try.ntmps29
  cases a with
  | none =>
    obtain ⟨rfl, rfl⟩ : n = 0 ∧ c = 0 := by
      rcases h.2 with ⟨hv', hn'⟩ | ⟨g', cap, cur, hv', _⟩
      · simp only [Value.slice.injEq] at hv'; exact ⟨hn', hv'.2.2⟩
      · simp at hv'
    go_wp2_with (refine wpList_appk rfl _ _ _ rfl base 43 12 96 zcBody Try.underlying33 infoItBody rfl (by decide) (.slice none 0 0) 0 U rfl h vb _ V rfl hv (by unfold maxLen; omega) (by omega) hbase _ rfl ?_; intro g c' w' ho hg hor hlt)
    go_ret
    exact ⟨_, _, rfl, ho.congr (insU_end U V 0), hg, fun b e => by simp [Value.ownBlock] at e; subst e; rcases hor with q | q; exact .inl q; exact .inr (by omega)⟩
  | some ad =>
    go_wp2_with (refine wpList_appk rfl _ _ _ rfl base 43 12 96 zcBody Try.underlying33 infoItBody rfl (by decide) (.slice (some ad) n c) n U rfl h vb _ V rfl hv (by unfold maxLen; omega) (by omega) hbase _ rfl ?_; intro g c' w' ho hg hor hlt)
    all_goals (go_ret; exact ⟨_, _, rfl, ho.congr (insU_end U V n), hg, fun b e => by simp [Value.ownBlock] at e; subst e; rcases hor with q | q; exact .inl q; exact .inr (by omega)⟩)
set_option maxRecDepth 20000 in
set_option maxHeartbeats 4000000 in
theorem insert_grow (base g n c : Nat) (U V : Nat → Int) (i vb vc : Nat) (w : World) (h : OwnL w base 43 12 (.slice (some ⟨g, 0, none⟩) n c) n U) (hn : n ≤ 1048576) (hi : i < n) (hroom : c < n + 1) (hbase : base ≤ w.heap.size)
    (hvb : vb < w.heap.size) (hv : ∀ j, j < 12 → w.cell? ⟨vb, j, none⟩ = some (.int .i64 (V j))) :
    Calls Try.prog 29 #[.slice (some ⟨g, 0, none⟩) n c, .int .i64 (i : Int), .slice (some ⟨vb, 0, none⟩) 1 vc] w fun e w' => InsP w base (some ⟨g, 0, none⟩) n c (insU U i V) e w' := by
  obtain ⟨cur, hg, hbg, hnc, hcm, hcs, hcv⟩ := cells_own h
  obtain rfl : c = n := by omega
  have hgl : g < w.heap.size := (h.lt g rfl).2
  have cellg : ∀ q, q < c * 12 → w.cell? ⟨g, q, none⟩ = some (.int .i64 (U q)) := fun q hq => h.cellq hq
  obtain ⟨inf, hinf, hzz⟩ := Option.map_eq_some_iff.1 infoItBody
  simp only [Prod.mk.injEq] at hzz
  obtain ⟨hz, hs, hb⟩ := hzz
  obtain ⟨ct, hct⟩ : ∃ ct, c + 1 - i = ct := ⟨_, rfl⟩
  have hct1 : i + ct = c + 1 := by omega
  have hold : (Builtin.firstCells inf.size i (.slice (some ⟨g, 0, none⟩) i c)).run Try.prog w.drew = .ok (numL (i * 12) U).toArray w.drew := by
    have q := run_loadCells_list (P := Try.prog) w.drew ⟨g, 0, none⟩ (numL (i * 12) U) (fun j v hj => by
      have hj' : j < i * 12 := by have := (List.getElem?_eq_some_iff.1 hj).1; rwa [numL_len] at this
      rw [numL_get hj'] at hj
      rw [Addr.add_lit, Nat.zero_add, ← hj]; exact cellg j (by omega))
    rw [numL_len] at q
    rw [hs]
    exact q
  have hr0 := Go.Lib.run_append_grow_zeros (P := Try.prog) w 33 3 33 43 inf zcBody .i64 .i64 Try.underlying33 Try.underlying3 hinf hz (some ⟨g, 0, none⟩) i c (numL (i * 12) U) hold ct (by omega) (by rw [hs]; decide) (by omega) (by omega) (by rw [hb]; omega) (by rw [hb]; exact growslice_fits (by omega) (by omega))
  have hcap := grownCap_ge w (i + ct) c 43
  have hmax := grownCap_le_maxLen w (i + ct) c 43 (by unfold maxLen; omega)
  generalize grownCap w (i + ct) c 43 = cp at hr0 hcap hmax
  have hM : ((numL (i * 12) U).toArray ++ Builtin.zeroCells zcBody.cells ct ++ Builtin.zeroCells zcBody.cells (cp - (i + ct))).size = cp * 12 := by
    rw [Array.size_append, Array.size_append, size_zeroCells, size_zeroCells]
    have : zcBody.cells.size = 12 := rfl
    simp only [this, List.size_toArray, numL_len]
    omega
  have hMv : ∀ q, q < i * 12 → ((numL (i * 12) U).toArray ++ Builtin.zeroCells zcBody.cells ct ++ Builtin.zeroCells zcBody.cells (cp - (i + ct)))[q]? = some (.int .i64 (U q)) := fun q hq => by
    rw [Array.getElem?_append_left (by rw [Array.size_append]; simp [numL_len]; omega), Array.getElem?_append_left (by simp [numL_len]; omega)]
    simpa using numL_get hq
  generalize (numL (i * 12) U).toArray ++ Builtin.zeroCells zcBody.cells ct ++ Builtin.zeroCells zcBody.cells (cp - (i + ct)) = M at hr0 hM hMv
  have hB1 : Below w.heap.size w (w.drew.alloc (.cells M 43)) := (Below.refl _ _).drew.alloc (by simp) _
  have hgN : (w.drew.alloc (.cells M 43)).heap[w.heap.size]? = some (.cells M 43 (0, 0)) := Go.Deep.blk_alloc_new w.drew (.cells M 43)
  obtain ⟨wn, hwn⟩ : ∃ wn, w.drew.alloc (.cells M 43) = wn := ⟨_, rfl⟩
  rw [hwn] at hr0 hB1 hgN
  obtain ⟨H, hH⟩ : ∃ H, w.heap.size = H := ⟨_, rfl⟩
  rw [hH] at hr0 hgN
  have hv1 : ∀ j, j < 12 → wn.cell? (Addr.add ⟨vb, 0, none⟩ j) = some (.int .i64 (V j)) := fun j hj => by
    rw [Addr.add_lit, Nat.zero_add]; exact (hB1.cell (p := ⟨vb, j, none⟩) hvb).trans (hv j hj)
  obtain ⟨cur1, hr1, hs1, hg1, hc1⟩ := run_copy_num (P := Try.prog) wn 33 33 3 43 12 H (i * 12) (c + 1 - i) (cp - i) ⟨vb, 0, none⟩ 1 vc M 43 V 1 Try.underlying33 szInfo hgN (by simp only [Nat.min_def]; split <;> omega) (fun j hj => hv1 j (by omega)) (by omega)
  obtain ⟨w1, hw1e⟩ : ∃ w1, wn.setRow H cur1 = w1 := ⟨_, rfl⟩
  rw [hw1e] at hr1 hg1
  have hgr1 : wn.grownBy w1 (some H) := by rw [← hw1e]; exact grown_setRow wn H cur1
  have hsrc : ∀ j, j < (c - i) * 12 → w1.drew.cell? (Addr.add ⟨g, i * 12, none⟩ j) = some (.int .i64 (U (i * 12 + j))) := fun j hj => by
    rw [Addr.add_lit]
    exact hgr1.cell ((hB1.cell (p := ⟨g, i * 12 + j, none⟩) hgl).trans (cellg _ (by omega))) (fun e => by simp at e; omega)
  obtain ⟨cur2, hr2, hs2, hg2, hc2⟩ := run_copy_num (P := Try.prog) w1.drew 33 33 3 43 12 H ((i + 1) * 12) (c - i) (cp - (i + 1)) ⟨g, i * 12, none⟩ (c - i) (c - i) cur1 43 (fun j => U (i * 12 + j)) (c - i) Try.underlying33 szInfo hg1 (by simp only [Nat.min_def]; split <;> omega) hsrc (by omega)
  obtain ⟨w2, hw2e⟩ : ∃ w2, w1.drew.setRow H cur2 = w2 := ⟨_, rfl⟩
  rw [hw2e] at hr2 hg2
  have hgr2 : w1.grownBy w2 (some H) := by rw [← hw2e]; exact grown_setRowD w1 H cur2
  have hBw : Below w.heap.size w w2 := (hB1.grown hgr1 hB1.size (fun b e => by simp at e; omega)).grown hgr2 (Nat.le_trans hB1.size hgr1.size) (fun b e => by simp at e; omega)
  have hown : OwnL w2 base 43 12 (.slice (some ⟨H, 0, none⟩) (c + 1) cp) (c + 1) (insU U i V) := own_cells hg2 (by omega) (by omega) hmax (by rw [hs2, hs1, hM]) (fun q hq => by
    rw [hc2 q (by omega)]
    unfold insU
    by_cases q1 : q < i * 12
    · rw [if_neg (by omega), if_pos q1, hc1 q (by omega), if_neg (by omega)]; exact hMv q (by omega)
    · by_cases q2 : q < i * 12 + 12
      · rw [if_neg (by omega), if_neg q1, if_pos q2, hc1 q (by omega), if_pos (by omega)]
      · rw [if_pos (by omega), if_neg q1, if_neg q2, show i * 12 + (q - (i + 1) * 12) = q - 12 by omega])
  have hP : w.grownBy w2 (Value.slice (some ⟨g, 0, none⟩) c c).ownBlock := ⟨hBw.os, hBw.tape, hBw.output, hBw.size, fun k hk _ => hBw.block k hk⟩
  have hnew : w.heap.size ≤ H := by omega
  have hz2 : ¬ ((i : Int) = (c : Int)) := by omega
  have hw0 : IntKind.i64.wrap ((c : Int) + 1) = (c : Int) + 1 := i64w (by omega)
  have hw1 : IntKind.i64.wrap ((i : Int) + 1) = (i : Int) + 1 := i64w (by omega)
  have hw2 : (c : Int) + 1 - (i : Int) = (ct : Int) := by omega
  have hw3 : IntKind.i64.wrap (ct : Int) = (ct : Int) := i64w (by omega)
  have hb1 : (0 : Int) ≤ (i : Int) + 1 := by omega
  have htn : ((i : Int) + 1).toNat = i + 1 := by omega
  have hb2 : ¬ (cp = i + 1) := by omega
  have hb3 : ¬ (cp = i) := by omega
  have hb4 : ¬ (c = i) := by omega
  have hi1 : (i : Int) ≤ (c : Int) := by omega
  have hi2 : (i : Int) ≤ (c : Int) + 1 := by omega
  have hi3 : (i : Int) + 1 ≤ (c : Int) + 1 := by omega
  have hr3 : (c : Int) < (c : Int) + 1 := by omega
  rw [hct1] at hr0
  clear hgr1 hgr2 hc1 hc2 hcv cellg hv1 hv hs1 hs2 hg1 hg2 hg hw1e hw2e hsrc h hM hMv hold hgN hB1 hBw hct hct1 hH hwn
  go_enter Try.func29, Try.ntmps29
  go_upto_region 10 with (refine Go.Lib.wpList_append_run _ rfl _ _ _ _ rfl _ _ rfl rfl _ _ hr0 ?_)
  go_upto_region 11 with (refine wpList_copyR rfl _ _ _ _ rfl _ _ rfl rfl hr1 ?_)
  refine wp_region_held_drew (S := fun w' => True) (by kernel_rfl) ?_ (fun hHeld => ?_)
  · trivial
  refine tq 0 hHeld ?_
  refine tq 1 hHeld ?_
  refine tq 2 hHeld ?_
  refine tq 3 hHeld ?_
  refine tq 4 hHeld ?_
  refine tq 5 hHeld ?_
  refine tq 6 hHeld ?_
  refine tq 7 hHeld ?_
  refine tc 8 fun K hK => ?_
  refine step_copyR (by rfl) _ _ _ _ (by rfl) _ _ (by rfl) (by rfl) hr2 ?_
  refine tr hK (fun hHeld => ?_) trivial
  clear hK K
  refine wpAnyH_done (by kernel_rfl) ?_ _
  go_wp2_with fail
  go_ret
  exact ⟨_, _, rfl, hown, hP, fun b e => .inr (by simp [Value.ownBlock] at e; omega)⟩
end Go.Proofs.Ythekeeagjokpeaa
namespace Go.Proofs.Ythekeeagjokpeaa
open Go.RowKit
set_option linter.unusedVariables false
set_option linter.unusedSimpArgs false
set_option maxRecDepth 20000 in
set_option maxHeartbeats 4000000 in
theorem insert_room (base g n c : Nat) (U V : Nat → Int) (i vb vc : Nat) (w : World) (h : OwnL w base 43 12 (.slice (some ⟨g, 0, none⟩) n c) n U) (hn : n ≤ 1048576) (hi : i < n) (hroom : n + 1 ≤ c)
    (hvb : vb ≠ g) (hv : ∀ j, j < 12 → w.cell? ⟨vb, j, none⟩ = some (.int .i64 (V j))) (hsa : w.shape? vb = some (43, 12)) (hfa : ∀ o, w.frozen? ⟨vb, o, none⟩ = false) :
    Calls Try.prog 29 #[.slice (some ⟨g, 0, none⟩) n c, .int .i64 (i : Int), .slice (some ⟨vb, 0, none⟩) 1 vc] w fun e w' => InsP w base (some ⟨g, 0, none⟩) n c (insU U i V) e w' := by
  obtain ⟨cur, hg, hbg, hnc, hcm, hcs, hcv⟩ := cells_own h
  have hsb : w.shape? g = some (43, c * 12) := by unfold World.shape?; rw [hg]; show some (_, cur.size) = _; rw [hcs]
  have hz2 : ¬ ((i : Int) = (n : Int)) := by omega
  have hov : ∀ lb cb, (callFunc 56 #[.slice (some ⟨vb, 0, none⟩) 1 vc, .slice (some ⟨g, (i + 1) * 12, none⟩) lb cb]).run Try.prog w = .ok (.value (.bool false)) w := fun lb cb => by
    rw [run_callFunc_extern Try.func56 (by kernel_rfl) (by kernel_rfl) (by kernel_rfl) (e := Extern.SlicesOverlaps.overlaps #[33, 33] #[4]) (by kernel_rfl),
      Go.Lib.run_overlaps_apart w 33 4 43 Try.underlying33 12 sizeB ⟨vb, 0, none⟩ ⟨g, (i + 1) * 12, none⟩ 1 vc lb cb hvb 43 43 12 (c * 12) hsa hsb (by omega) (hfa 0) (hfa 12)]
    rfl
  have hw0 : IntKind.i64.wrap ((n : Int) + 1) = (n : Int) + 1 := i64w (by omega)
  have hw1 : IntKind.i64.wrap ((i : Int) + 1) = (i : Int) + 1 := i64w (by omega)
  have hb1 : (0 : Int) ≤ (i : Int) + 1 := by omega
  have hb0 : (0 : Int) ≤ (n : Int) + 1 := by omega
  have htn : ((i : Int) + 1).toNat = i + 1 := by omega
  have htm : ((n : Int) + 1).toNat = n + 1 := by omega
  have hb2 : ¬ (c = i + 1) := by omega
  have hb4 : ¬ (c = i) := by omega
  have hi1 : (i : Int) ≤ (n : Int) := by omega
  have hi2 : (i : Int) ≤ (n : Int) + 1 := by omega
  have hi3 : (i : Int) + 1 ≤ (n : Int) + 1 := by omega
  have hr1 : (n : Int) + 1 ≤ (c : Int) := by omega
  have hr2 : ¬ ((c : Int) < (n : Int) + 1) := by omega
  have hc63 : (c : Int) ≤ 9223372036854775807 := by unfold maxLen at hcm; omega
  have cellg : ∀ q, q < n * 12 → w.cell? ⟨g, q, none⟩ = some (.int .i64 (U q)) := fun q hq => h.cellq hq
  obtain ⟨cur1, hr, hs1, hg1, hc1⟩ := run_copy_num (P := Try.prog) w.drew 33 33 3 43 12 g ((i + 1) * 12) (n - i) (c - (i + 1)) ⟨g, i * 12, none⟩ (n + 1 - i) (c - i) cur 43 (fun j => U (i * 12 + j)) (n - i) Try.underlying33 szInfo hg (by simp only [Nat.min_def]; split <;> omega)
    (fun j hj => by rw [Addr.add_lit]; exact cellg _ (by omega)) (by omega)
  obtain ⟨w1, hw1e⟩ : ∃ w1, w.drew.setRow g cur1 = w1 := ⟨_, rfl⟩
  rw [hw1e] at hr hg1
  have hgr1 : w.grownBy w1 (some g) := by rw [← hw1e]; exact grown_setRowD w g cur1
  have hv1 : ∀ j, j < 12 → w1.cell? (Addr.add ⟨vb, 0, none⟩ j) = some (.int .i64 (V j)) := fun j hj => by
    rw [Addr.add_lit, Nat.zero_add]; exact hgr1.cell (hv j hj) (fun e => hvb (by simpa using e))
  obtain ⟨cur2, hr2', hs2, hg2, hc2⟩ := run_copy_num (P := Try.prog) w1 33 33 3 43 12 g (i * 12) (n + 1 - i) (c - i) ⟨vb, 0, none⟩ 1 vc cur1 43 V 1 Try.underlying33 szInfo hg1 (by simp only [Nat.min_def]; split <;> omega) (fun j hj => hv1 j (by omega)) (by omega)
  obtain ⟨w2, hw2e⟩ : ∃ w2, w1.setRow g cur2 = w2 := ⟨_, rfl⟩
  rw [hw2e] at hr2' hg2
  have hgr2 : w1.grownBy w2 (some g) := by rw [← hw2e]; exact grown_setRow w1 g cur2
  have hown : OwnL w2 base 43 12 (.slice (some ⟨g, 0, none⟩) (n + 1) c) (n + 1) (insU U i V) := own_cells hg2 hbg hroom hcm (by rw [hs2, hs1, hcs]) (fun q hq => by
    rw [hc2 q (by omega)]
    unfold insU
    by_cases q1 : q < i * 12
    · rw [if_neg (by omega), if_pos q1, hc1 q (by omega), if_neg (by omega)]; exact hcv q (by omega)
    · by_cases q2 : q < i * 12 + 12
      · rw [if_pos (by omega), if_neg q1, if_pos q2]
      · rw [if_neg (by omega), if_neg q1, if_neg q2, hc1 q (by omega), if_pos (by omega), show i * 12 + (q - (i + 1) * 12) = q - 12 by omega])
  have hP : w.grownBy w2 (some g) := grown_trans hgr1 hgr2
  clear hgr1 hgr2 hc1 hc2 hcv cellg hv1 hv hs1 hs2 hg1 hg2 hg hw1e hw2e hfa hsa hsb h
  go_enter Try.func29, Try.ntmps29
  go_upto_region 15 with (simp only [hov])
  refine wp_region_held_drew (S := fun w' => True) (by kernel_rfl) ?_ (fun hHeld => ?_)
  · trivial
  refine tq 0 hHeld ?_
  refine tq 1 hHeld ?_
  refine tq 2 hHeld ?_
  refine tq 3 hHeld ?_
  refine tq 4 hHeld ?_
  refine tq 5 hHeld ?_
  refine tq 6 hHeld ?_
  refine tq 7 hHeld ?_
  refine tc 8 fun K hK => ?_
  refine step_copyR (by rfl) _ _ _ _ (by rfl) _ _ (by rfl) (by rfl) hr ?_
  refine tr hK (fun hHeld => ?_) trivial
  clear hK K
  refine wpAnyH_done (by kernel_rfl) ?_ _
  go_wp2_with (refine wpList_copyR rfl _ _ _ _ rfl _ _ rfl rfl hr2' ?_)
  go_ret
  exact ⟨_, _, rfl, hown, hP, fun b e => .inl e⟩
theorem insert_any (base : Nat) (a : Option Addr) (n c : Nat) (U V : Nat → Int) (i vb vc : Nat) (w : World) (h : OwnL w base 43 12 (.slice a n c) n U) (hn : n ≤ 1048576) (hi : i ≤ n) (hbase : base ≤ w.heap.size) (hvl : vb < w.heap.size)
    (hvb : ∀ b, (Value.slice a n c).ownBlock = some b → vb ≠ b) (hv : ∀ j, j < 12 → w.cell? ⟨vb, j, none⟩ = some (.int .i64 (V j))) (hsa : w.shape? vb = some (43, 12)) (hfa : ∀ o, w.frozen? ⟨vb, o, none⟩ = false) :
    Calls Try.prog 29 #[.slice a n c, .int .i64 (i : Int), .slice (some ⟨vb, 0, none⟩) 1 vc] w fun e w' => InsP w base a n c (insU U i V) e w' := by
  by_cases e : i = n
  · subst e; exact insert_end base a i c U V vb vc w h hn hbase hv
  · obtain ⟨g, rfl, hg1, hg2⟩ := h.loc (by omega)
    by_cases r : n + 1 ≤ c
    · exact insert_room base g n c U V i vb vc w h hn (by omega) r (hvb g rfl) hv hsa hfa
    · exact insert_grow base g n c U V i vb vc w h hn (by omega) (by omega) hbase hvl hv
end Go.Proofs.Ythekeeagjokpeaa
