/- Boxes marked from any number on; their size from any number down. The walk of the exact law of BroadPairs. Boxes by number that came in. -/
import Derived.Test.YtcbgcochpflblaaB20
import Derived.Test.YtcbgcochpflblaaLsB
import Derived.Deep.RegionHeld3
import Derived.Deep.DeepCutAuto
import Derived.Test.YtcbgcochpflblaaB35
import Derived.Test.YtcbgcochpflblaaB6
import Derived.Test.YtcbgcochpflblaaB31
import Derived.Test.YtcbgcochpflblaaB14
import Derived.Test.YtcbgcochpflblaaB7
import Derived.Test.YtcbgcochpflblaaRows
import Derived.ProofKit
import Derived.OpenShut
import Derived.Lib.SmallJoins
namespace Go.Proofs.Ytcbgcochpflblaa
open Go.RowKit
set_option linter.unusedVariables false
set_option linter.unusedSimpArgs false
/-- marked up to p, the first mark is s -/
abbrev mixS (s : Int) (p : Nat) (U : Nat → Int) : Nat → Int := fun q => if q < p then s + (q : Int) else U q
theorem OwnL.markS {w : World} {base t k n g c p : Nat} {s : Int} {U : Nat → Int} (h : OwnL w base t k (.slice (Option.some ⟨g, 0, none⟩) n c) n (mixS s p U)) (hp : p < n * k) {x : Int} (hx : x = s + (p : Int)) : OwnL (w.setCell ⟨g, p, none⟩ (.int .i64 x)) base t k (.slice (Option.some ⟨g, 0, none⟩) n c) n (mixS s (p + 1) U) :=
  (h.setq p hp x).congr fun q _ => by
    subst hx
    by_cases e : q = p
    · subst e; simp [mixS]
    · simp only [mixS, if_neg e]
      by_cases l : q < p
      · rw [if_pos l, if_pos (by omega)]
      · rw [if_neg l, if_neg (by omega)]
theorem mark5s {s : Int} {w wr : World} {base g n c j : Nat} {U : Nat → Int} (hlt : j < n) (ho : OwnL wr base 59 5 (.slice (some ⟨g, 0, none⟩) n c) n (mixS s (j * 5) U)) (hg : w.grownBy wr (Value.slice (some ⟨g, 0, none⟩) n c).ownBlock) :
    OwnL (((((wr.setCell ⟨g, j * 5, none⟩ (.int .i64 (s + (j : Int) * 5))).setCell ⟨g, j * 5 + 1, none⟩ (.int .i64 (s + (j : Int) * 5 + 1))).setCell ⟨g, j * 5 + 2, none⟩ (.int .i64 (s + (j : Int) * 5 + 1 + 1))).setCell ⟨g, j * 5 + 3, none⟩ (.int .i64 (s + (j : Int) * 5 + 1 + 1 + 1))).setCell ⟨g, j * 5 + 4, none⟩ (.int .i64 (s + (j : Int) * 5 + 1 + 1 + 1 + 1))) base 59 5 (.slice (some ⟨g, 0, none⟩) n c) n (mixS s ((j + 1) * 5) U) ∧
    w.grownBy (((((wr.setCell ⟨g, j * 5, none⟩ (.int .i64 (s + (j : Int) * 5))).setCell ⟨g, j * 5 + 1, none⟩ (.int .i64 (s + (j : Int) * 5 + 1))).setCell ⟨g, j * 5 + 2, none⟩ (.int .i64 (s + (j : Int) * 5 + 1 + 1))).setCell ⟨g, j * 5 + 3, none⟩ (.int .i64 (s + (j : Int) * 5 + 1 + 1 + 1))).setCell ⟨g, j * 5 + 4, none⟩ (.int .i64 (s + (j : Int) * 5 + 1 + 1 + 1 + 1))) (Value.slice (some ⟨g, 0, none⟩) n c).ownBlock := by
  have q1 := ho.markS (by omega) (x := s + (j : Int) * 5) (by omega)
  have q2 := q1.markS (by omega) (x := s + (j : Int) * 5 + 1) (by omega)
  have q3 := q2.markS (by omega) (x := s + (j : Int) * 5 + 1 + 1) (by omega)
  have q4 := q3.markS (by omega) (x := s + (j : Int) * 5 + 1 + 1 + 1) (by omega)
  have q5 := q4.markS (by omega) (x := s + (j : Int) * 5 + 1 + 1 + 1 + 1) (by omega)
  refine ⟨?_, ?_⟩
  · rw [show (j + 1) * 5 = j * 5 + 1 + 1 + 1 + 1 + 1 by omega]
    exact q5
  · have h0 : w.grownBy wr (some g) := hg
    exact grown_trans (grown_trans (grown_trans (grown_trans (grown_trans h0 (grown_setG _ _ _ _)) (grown_setG _ _ _ _)) (grown_setG _ _ _ _)) (grown_setG _ _ _ _)) (grown_setG _ _ _ _)
set_option maxRecDepth 20000 in
set_option maxHeartbeats 1000000 in
theorem markItemS_s (s : Int) (hs : 0 ≤ s ∧ s ≤ 100000000) (base : Nat) (a : Option Addr) (n c : Nat) (U : Nat → Int) (w : World) (h : OwnL w base 59 5 (.slice a n c) n U) (hn : n ≤ 2097152) :
    Calls Try.prog 25 #[.slice a n c, .int .i64 s] w fun e w' => e = .returned (.int .i64 (s + (n : Int) * 5)) ∧ OwnL w' base 59 5 (.slice a n c) n (fun q => s + (q : Int)) ∧ w.grownBy w' (Value.slice a n c).ownBlock := by
  have hset := cset_map
  go_enter Try.func25, Try.ntmps25
  go_wp2
  go_loopw [1, 5] (fun t i wr => ∃ j : Nat, j ≤ n ∧ i = .int .i64 (j : Int) ∧ t = .int .i64 (s + (j : Int) * 5) ∧ OwnL wr base 59 5 (.slice a n c) n (mixS s (j * 5) U) ∧ w.grownBy wr (Value.slice a n c).ownBlock) (fun _ i _ => n - (intOf i).toNat)
  case atStart => exact ⟨0, Nat.zero_le _, rfl, congrArg (Value.int .i64) (by omega), h.congr (fun q _ => by simp [mixS]), grown_refl _ _⟩
  case round =>
    obtain ⟨j, hj, rfl, rfl, ho, hg⟩ := hrel
    by_cases hlt : j < n
    · have hjn : (j : Int) < (n : Int) := by omega
      obtain ⟨g, rfl, hgb, hgl⟩ := ho.at (by omega)
      have c0 := ho.cell (q := j * 5) (by omega)
      have c1 := ho.cell (q := j * 5 + 1) (by omega)
      have c2 := ho.cell (q := j * 5 + 2) (by omega)
      have c3 := ho.cell (q := j * 5 + 3) (by omega)
      have c4 := ho.cell (q := j * 5 + 4) (by omega)
      have f0 := ho.fro
      go_wp2
      go_roundw
      case rel =>
        obtain ⟨r1, r2⟩ := mark5s hlt ho hg
        exact ⟨j + 1, by omega, by go_num, congrArg (Value.int .i64) (by omega), r1, r2⟩
      case measure => simp [intOf]; omega
    · obtain rfl : j = n := by omega
      go_wp2
      go_ret
      exact ⟨rfl, ho.congr (fun q hq => by simp [mixS, hq]), hg⟩
theorem markBroad_s (s : Int) (hs : 0 ≤ s ∧ s ≤ 100000000) (base : Nat) (a : Option Addr) (n c : Nat) (U : Nat → Int) (w : World) (h : OwnL w base 59 5 (.slice a n c) n U) (hn : n ≤ 2097152) :
    Calls Try.prog 11 #[.agg #[.slice a n c], .int .i64 s] w fun e w' => e = .returned (.int .i64 (s + (n : Int) * 5)) ∧ OwnL w' base 59 5 (.slice a n c) n (fun q => s + (q : Int)) ∧ w.grownBy w' (Value.slice a n c).ownBlock := by
  have hset := cset_map
  have h3 := h.below ((Below.refl _ w).alloc (Nat.le_refl _) (.cells #[.slice a n c] 30))
  go_enter Try.func11, Try.ntmps11
  go_wp2_with (go_at_call 25; refine (markItemS_s s hs base _ _ _ U _ h3 hn).mono ?_; rintro e w1 ⟨rfl, ho1, hg1⟩)
  go_ret
  exact ⟨rfl, ho1, grown_trans (World.grownBy_alloc w _ _) hg1⟩
theorem szItemS_l (L : Int) (hL : 0 ≤ L ∧ L ≤ 1048576) (a : Option Addr) (n c : Nat) (w : World) (hn : (n : Int) ≤ 9223372036854775807) :
    Calls Try.prog 16 #[.slice a n c, .int .i64 L] w fun e w' => e = .returned (.int .i64 (if (n : Int) ≤ L then L - (n : Int) else -1)) ∧ w' = w := by
  by_cases h : (n : Int) ≤ L
  · have h1 : ¬ (L - (n : Int) < 0) := by omega
    go_enter Try.func16, Try.ntmps16
    go_wp2
    go_ret
    exact ⟨by first | rfl | (rw [if_pos h]; rfl) | simp [h], rfl⟩
  · have h1 : (L - (n : Int) < 0) := by omega
    go_enter Try.func16, Try.ntmps16
    go_wp2
    go_ret
    exact ⟨by first | rfl | (rw [if_neg h]; rfl) | simp [h], rfl⟩
theorem szBroad_l (L : Int) (hL : 0 ≤ L ∧ L ≤ 1048576) (a : Option Addr) (n c : Nat) (w : World) (hn : (n : Int) ≤ 9223372036854775807) :
    Calls Try.prog 5 #[.agg #[.slice a n c], .int .i64 L] w fun e w' => e = .returned (.int .i64 (if (n : Int) ≤ L then L - (n : Int) else -1)) ∧ Below w.heap.size w w' := by
  have hset := cset_map
  by_cases h : (n : Int) ≤ L
  · have h1 : ¬ (L - (n : Int) < 0) := by omega
    go_enter Try.func5, Try.ntmps5
    go_wp2_with (go_at_call 16; refine (szItemS_l L hL _ _ _ _ hn).mono ?_; rw [if_pos h]; rintro e w1 ⟨rfl, rfl⟩)
    go_ret
    exact ⟨by first | rfl | (rw [if_pos h]; rfl) | simp [h], bel_a⟩
  · have h1 : (L - (n : Int) < 0) := by omega
    go_enter Try.func5, Try.ntmps5
    go_wp2_with (go_at_call 16; refine (szItemS_l L hL _ _ _ _ hn).mono ?_; rw [if_neg h]; rintro e w1 ⟨rfl, rfl⟩)
    go_ret
    exact ⟨by first | rfl | (rw [if_neg h]; rfl) | simp [h], bel_a⟩
end Go.Proofs.Ytcbgcochpflblaa
namespace Go.Proofs.Ytcbgcochpflblaa
open Go.RowKit
set_option linter.unusedVariables false
set_option linter.unusedSimpArgs false
/-- what came in, and the answers' memory behind it -/
structure AB (w wr : World) (ai : Option Addr) (n ci : Nat) : Prop where
  bel : Below w.heap.size w wr
  big : w.heap.size < wr.heap.size
  box : wr.cell? ⟨w.heap.size, 0, none⟩ = some (.slice ai n ci)
theorem AB.new (w : World) (ai : Option Addr) (n ci : Nat) (t : TypeId) : AB w (w.alloc (.cells #[.slice ai n ci] t)) ai n ci := ⟨(Below.refl _ _).alloc (Nat.le_refl _) _, by simp, by go_simp⟩
theorem AB.on {w wr w' : World} {ai : Option Addr} {n ci : Nat} (h : AB w wr ai n ci) (hb : Below wr.heap.size wr w') : AB w w' ai n ci :=
  ⟨h.bel.trans (hb.mono (by have := h.big; omega)), Nat.lt_of_lt_of_le h.big hb.size, keepc hb h.box⟩
theorem AB.gr {w wr w' : World} {ai : Option Addr} {n ci : Nat} {row : Option Nat} (h : AB w wr ai n ci) (hg : wr.grownBy w' row) (hr : ∀ k, row = some k → w.heap.size < k) : AB w w' ai n ci := by
  have hb : Below (w.heap.size + 1) wr w' := (Below.refl _ _).grown hg (by have := h.big; omega) (fun k e => by have := hr k e; omega)
  exact ⟨h.bel.trans (hb.mono (by omega)), Nat.lt_of_lt_of_le h.big hb.size, (hb.cell (p := ⟨w.heap.size, 0, none⟩) (by show w.heap.size < _; omega)).trans h.box⟩
theorem Lk.lv {w : World} {lo bx : Nat} {a : Option Addr} {n c : Nat} {U : Nat → Int} (h : Lk w lo bx a n c U) : Lv w lo bx 59 5 a n c U := ⟨h.own, h.top, Nat.le_of_lt h.lt⟩
end Go.Proofs.Ytcbgcochpflblaa
namespace Go.Proofs.Ytcbgcochpflblaa
open Go.RowKit Go.ChangeShapes Go.WideShapes Go.ChangeAt Go.Joins Go.Deep
set_option linter.unusedVariables false
set_option linter.unusedSimpArgs false
theorem cellsI : Try.prog.cellsOf 3 = 1 := by kernel_rfl
theorem cellsV : Try.prog.cellsOf 63 = 2 := by kernel_rfl
theorem cellsB : Try.prog.cellsOf 65 = 4 := by kernel_rfl
theorem cellsIt : Try.prog.cellsOf 67 = 5 := by kernel_rfl
theorem cellsBr : Try.prog.cellsOf 24 = 1 := by kernel_rfl
theorem cellsSl : Try.prog.cellsOf 22 = 1 := by kernel_rfl
set_option maxRecDepth 100000 in
theorem intsI : IntsOf Try.prog 3 1 := IntsOf.int Try.underlying3
set_option maxRecDepth 100000 in
theorem intsV : IntsOf Try.prog 63 2 := IntsOf.struct [1, 1] Try.underlying63 (by kernel_rfl) (fun i f c h1 h2 => match i, h1, h2 with
  | 0, h1, h2 => by cases h1; cases h2; exact ⟨cellsI, intsI⟩
  | 1, h1, h2 => by cases h1; cases h2; exact ⟨cellsI, intsI⟩
  | _ + 2, h1, h2 => by simp at h2) (by decide)
set_option maxRecDepth 100000 in
theorem intsB : IntsOf Try.prog 65 4 := IntsOf.struct [2, 2] Try.underlying65 (by kernel_rfl) (fun i f c h1 h2 => match i, h1, h2 with
  | 0, h1, h2 => by cases h1; cases h2; exact ⟨cellsV, intsV⟩
  | 1, h1, h2 => by cases h1; cases h2; exact ⟨cellsV, intsV⟩
  | _ + 2, h1, h2 => by simp at h2) (by decide)
set_option maxRecDepth 100000 in
theorem intsIt : IntsOf Try.prog 67 5 := IntsOf.struct [1, 4] Try.underlying67 (by kernel_rfl) (fun i f c h1 h2 => match i, h1, h2 with
  | 0, h1, h2 => by cases h1; cases h2; exact ⟨cellsI, intsI⟩
  | 1, h1, h2 => by cases h1; cases h2; exact ⟨cellsB, intsB⟩
  | _ + 2, h1, h2 => by simp at h2) (by decide)
set_option maxRecDepth 100000 in
theorem open_broad {H : Type} {enc : TypeId × Value → H} {W : World} {base b0 : Nat} {spare : Nat → Bool} {held : Bool} {v : Value} {d : DataW H} {p : List MemPlace}
    (hv : Value.okWide Try.prog W .any b0 24 v) (h : DataW.Trod enc Try.prog W base spare held 24 v d p) :
    ∃ (a : Option Addr) (n c : Nat) (U : Nat → Int), v = .agg #[.slice a n c] ∧ (n : Int) ≤ 9223372036854775807 ∧ Flat W a (n * 5) U ∧ ∀ q, q < n * 5 → (Lit.int .i64 (U q)).wf = true := by
  obtain ⟨cs, rfl, hsz⟩ := okWide_struct Try.underlying24 hv
  have hs1 := hsz.trans cellsBr
  obtain ⟨c0, rfl⟩ : ∃ c0, cs = #[c0] := by
    rcases cs with ⟨l⟩
    match l, hs1 with
    | [x], _ => exact ⟨x, rfl⟩
  obtain ⟨fuel, hf⟩ := h
  obtain ⟨y0, n, _, _, h0⟩ := trod_struct1 Try.underlying24 hf
  have k0 : DataW.trod enc Try.prog W base spare held n 22 [c0] = some y0 := by simpa [Value.cells, cellsSl] using h0
  obtain ⟨a, n, c, U, rfl, hn, hF, hw⟩ := open_flat (by decide) Try.underlying22 cellsIt intsIt k0
  exact ⟨a, n, c, U, rfl, hn, hF, hw⟩
end Go.Proofs.Ytcbgcochpflblaa
