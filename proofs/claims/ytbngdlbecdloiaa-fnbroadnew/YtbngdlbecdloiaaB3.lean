/- The contracts of the number functions of chapter 1, each for every argument of its domain. The contracts of the two roots. The contracts of the functions of chapter 2: ways. The contracts of the specification's ways. The contracts of the shapes: what is ok. The contracts of VecMul, VecDot and VecLen. The contract of VecUnit. Where slices.Sort and all that it calls lie in this program. Lemmas on whatever program: from the head of its cut's word to the closed facts. -/
import Derived.Test.YtbngdlbecdloiaaRows
import Derived.Test.YtbngdlbecdloiaaB1
import Derived.WalkKit
import Derived.WalkSpells
import Derived.WalkLawsBesides
import Derived.Deep.QuietTactic
import Derived.BigQuiet
import Derived.Deep.RegionWith
import Derived.Shelf.Sort.Plain
import Derived.Test.YtbngdlbecdloiaaProg
import Derived.JoinedOf
set_option maxHeartbeats 16000000
set_option maxRecDepth 20000
namespace Go.Proofs.Ytbngdlbecdloiaa
open Go.RowKit

end Go.Proofs.Ytbngdlbecdloiaa
namespace Go.Proofs.Ytbngdlbecdloiaa
open Go.RowKit
set_option linter.unusedVariables false

theorem lt_of_sq {a b : Int} (hb : 0 ≤ b) (h : a * a < b * b) : a < b := by
  rcases Int.lt_or_le a b with k | k
  · exact k
  · have := sq_mono hb k; omega
theorem le_of_sq {a b : Int} (hb : 0 ≤ b) (h : a * a < (b + 1) * (b + 1)) : a ≤ b := by
  have := lt_of_sq (show 0 ≤ b + 1 by omega) h; omega
/-- the middle of two -/
theorem mid {l h : Int} (a : 0 ≤ l) (b : l + 1 < h) : l < (l + h) / 2 ∧ (l + h) / 2 < h := by omega

def cellInt (w : World) (a : Addr) : Int := match w.cell? a with | some v => intOf v | none => 0
theorem cellInt_of {w : World} {a : Addr} {k : IntKind} {n : Int} (h : w.cell? a = some (.int k n)) : cellInt w a = n := by simp [cellInt, h, intOf]

end Go.Proofs.Ytbngdlbecdloiaa
namespace Go.Proofs.Ytbngdlbecdloiaa
open Go.RowKit
set_option linter.unusedVariables false

theorem bcell {W w1 : World} (hb : Below W.heap.size W w1) : (∀ b o, b < W.heap.size → w1.cell? ⟨b, o, none⟩ = W.cell? ⟨b, o, none⟩) ∧ (∀ b o, b < W.heap.size → w1.frozen? ⟨b, o, none⟩ = W.frozen? ⟨b, o, none⟩) :=
  ⟨fun b o h => hb.cell (p := ⟨b, o, none⟩) h, fun b o h => hb.frozen (p := ⟨b, o, none⟩) h⟩
theorem blt {W w1 : World} (hb : Below W.heap.size W w1) : ∀ b, b < W.heap.size → b < w1.heap.size := fun b h => Nat.lt_of_lt_of_le h hb.size
theorem belowDrewN {B : Nat} {a w : World} (h : Below B a w) (n : Nat) : Below B a (w.drewN n) := ⟨h.os, h.tape, h.output, h.size, h.block⟩
/-- what a walk leaves is younger: found by its own text -/
theorem bel_a {B : Nat} {a w : World} (h : Below B a w := by repeat (first | with_reducible apply Below.refl | (with_reducible apply Below.setCell; rotate_left; focus (first | omega | (simp; done) | (simp; omega))) | (with_reducible apply Below.alloc; rotate_left; focus (first | omega | (simp; done) | (simp; omega))) | with_reducible apply Below.drew | with_reducible apply belowDrewN | (with_reducible apply Below.trans; rotate_left; with_reducible apply Below.mono; with_reducible assumption; focus (first | omega | (simp; done) | (simp; omega))))) : Below B a w := h

theorem cset_map (w : World) (a : Addr) (v : Value) : (w.setCell a v).cell? a = (w.cell? a).map fun _ => v := by
  cases h : w.cell? a with
  | some u => rw [cset_same h]; rfl
  | none =>
    simp only [World.cell?, World.setCell, Array.getElem?_modify, if_true] at *
    cases hb : w.heap[a.block]? with
    | none => simp
    | some o =>
      rw [hb] at h
      cases o with
      | cells c t fr =>
        by_cases hs : a.spot.isSome
        · simp [hs]
        · simp [hs] at h ⊢; omega
      | _ => simp

theorem i64w {n : Int} (h : -9223372036854775808 ≤ n ∧ n ≤ 9223372036854775807) : IntKind.i64.wrap n = n := by
  simp [IntKind.wrap, IntKind.bits, IntKind.signed]; omega
/-- how far two ways go together -/
def vdot (x y u v : Int) : Int := fc ((fc x * fc u + fc y * fc v).tdiv 256)
/-- how long a way is -/
def vl (x y : Int) : Int := clampZ 1000000000 (rootZ (x * x + y * y))
/-- a way made as long as 1 -/
def ux (x y : Int) : Int := if vl x y = 0 then 0 else (x * 256).tdiv (vl x y)
def uy (x y : Int) : Int := if vl x y = 0 then 256 else (y * 256).tdiv (vl x y)
theorem vl_bd (x y : Int) : 0 ≤ vl x y ∧ vl x y ≤ 1000000000 := by
  have h := rootZ_nonneg (x * x + y * y)
  have k := clampZ_bd (l := 1000000000) (rootZ (x * x + y * y)) (by decide)
  refine ⟨?_, k.2⟩
  unfold vl clampZ; repeat' split
  all_goals omega
theorem sq_bd {x y : Int} (hx : -1000000000 ≤ x ∧ x ≤ 1000000000) (hy : -1000000000 ≤ y ∧ y ≤ 1000000000) : 0 ≤ x * x + y * y ∧ x * x + y * y ≤ 2000000000000000000 := by
  have p := mul_bd hx hx
  have q := mul_bd hy hy
  have p0 : 0 ≤ x * x := by rcases Int.le_total 0 x with h | h; exact Int.mul_nonneg h h; exact Int.mul_nonneg_of_nonpos_of_nonpos h h
  have q0 : 0 ≤ y * y := by rcases Int.le_total 0 y with h | h; exact Int.mul_nonneg h h; exact Int.mul_nonneg_of_nonpos_of_nonpos h h
  omega

abbrev vv (x y : Int) : Value := .agg #[.int .i64 x, .int .i64 y]

theorem wayOf_any (x y : Int) (w : World) :
    Calls Try.prog 62 #[vv x y] w fun e w' => e = .returned (vv x y) ∧ Below w.heap.size w w' := by
  have hset := cset_map
  go_enter Try.func62, Try.ntmps62
  go_wp2
  exact bodyPost_ret (v := vv x y) (by simp [results, Try.results62, go_sem]) rfl ⟨rfl, bel_a⟩

theorem vec_any (x y : Int) (w : World) :
    Calls Try.prog 68 #[vv x y] w fun e w' => e = .returned (vv x y) ∧ Below w.heap.size w w' := by
  have hset := cset_map
  go_enter Try.func68, Try.ntmps68
  go_wp2
  exact bodyPost_ret (v := vv x y) (by simp [results, Try.results68, go_sem]) rfl ⟨rfl, bel_a⟩

theorem plus_any (x y u v : Int) (w : World) (hx : -4000000000 ≤ x ∧ x ≤ 4000000000) (hy : -4000000000 ≤ y ∧ y ≤ 4000000000) (hu : -4000000000 ≤ u ∧ u ≤ 4000000000) (hv : -4000000000 ≤ v ∧ v ≤ 4000000000) :
    Calls Try.prog 79 #[vv x y, vv u v] w fun e w' => e = .returned (vv (x + u) (y + v)) ∧ Below w.heap.size w w' := by
  have hset := cset_map
  go_enter Try.func79, Try.ntmps79
  go_wp2
  exact bodyPost_ret (v := vv (x + u) (y + v)) (by simp [results, Try.results79, go_sem]) rfl ⟨rfl, bel_a⟩

theorem less_any (x y u v : Int) (w : World) (hx : -4000000000 ≤ x ∧ x ≤ 4000000000) (hy : -4000000000 ≤ y ∧ y ≤ 4000000000) (hu : -4000000000 ≤ u ∧ u ≤ 4000000000) (hv : -4000000000 ≤ v ∧ v ≤ 4000000000) :
    Calls Try.prog 78 #[vv x y, vv u v] w fun e w' => e = .returned (vv (x - u) (y - v)) ∧ Below w.heap.size w w' := by
  have hset := cset_map
  go_enter Try.func78, Try.ntmps78
  go_wp2
  exact bodyPost_ret (v := vv (x - u) (y - v)) (by simp [results, Try.results78, go_sem]) rfl ⟨rfl, bel_a⟩

def vokB (x y : Int) : Bool := decide (-1000000000 ≤ x ∧ x ≤ 1000000000 ∧ -1000000000 ≤ y ∧ y ≤ 1000000000)
def inB (l x y : Int) : Bool := decide (-l ≤ x ∧ x ≤ l ∧ -l ≤ y ∧ y ≤ l)
theorem within_any (n l : Int) (w : World) (h0 : 0 ≤ l) (h1 : l ≤ 4000000000) :
    Calls Try.prog 77 #[.int .i64 n, .int .i64 l] w fun e w' => e = .returned (.bool (decide (-l ≤ n ∧ n ≤ l))) ∧ w' = w := by
  go_enter Try.func77, Try.ntmps77
  go_wp2
  all_goals
    go_ret
    refine ⟨ret_bool ?_, rfl⟩
    first | (simp; omega) | (simp; done)
theorem within2_any (x y l : Int) (w : World) (h0 : 0 ≤ l) (h1 : l ≤ 4000000000) :
    Calls Try.prog 71 #[vv x y, .int .i64 l] w fun e w' => e = .returned (.bool (inB l x y)) ∧ Below w.heap.size w w' := by
  go_enter Try.func71, Try.ntmps71
  go_wp2_with (go_at_call 77; refine (within_any _ _ _ h0 h1).mono ?_; rintro e w' ⟨rfl, rfl⟩)

  all_goals
    go_ret
    refine ⟨ret_bool ?_, bel_a⟩
    unfold inB
    first | (simp; omega) | (simp [*]; done) | (simp at *; omega)
theorem vecOk_any (x y : Int) (w : World) :
    Calls Try.prog 61 #[vv x y] w fun e w' => e = .returned (.bool (vokB x y)) ∧ Below w.heap.size w w' := by
  have hset := cset_map
  go_enter Try.func61, Try.ntmps61
  go_wp2_with (first
    | (go_at_call 62; refine (wayOf_any _ _ _).mono ?_; rintro e w1 ⟨rfl, hb1⟩; obtain ⟨hc1, hf1⟩ := bcell hb1; have hz1 := hb1.size; (try simp at hz1); have hq1x0a : w.heap.size < w1.heap.size := (by omega))
    | (go_at_call 71; refine (within2_any _ _ _ _ (by omega) (by omega)).mono ?_; rintro e w2 ⟨rfl, hb2⟩; obtain ⟨hc2, hf2⟩ := bcell hb2; have hz2 := hb2.size; (try simp at hz2); have hq2x0a : w.heap.size < w2.heap.size := (by omega)))
  go_ret
  exact ⟨rfl, bel_a⟩

end Go.Proofs.Ytbngdlbecdloiaa
namespace Go.Proofs.Ytbngdlbecdloiaa
open Go.RowKit
set_option linter.unusedVariables false
set_option linter.unusedSimpArgs false

theorem l1In_any (n l h : Int) (w : World) :
    Calls Try.prog 42 #[.int .i64 n, .int .i64 l, .int .i64 h] w fun e w' => e = .returned (.bool (decide (l ≤ n ∧ n ≤ h))) ∧ w' = w := by
  go_enter Try.func42, Try.ntmps42
  go_wp2
  all_goals
    go_ret
    refine ⟨ret_bool ?_, rfl⟩
    first | (simp; omega) | (simp; done)

theorem sVecOk_any (x y : Int) (w : World) :
    Calls Try.prog 53 #[vv x y] w fun e w' => e = .returned (.bool (vokB x y)) ∧ Below w.heap.size w w' := by
  have hset := cset_map
  go_enter Try.func53, Try.ntmps53
  go_wp2_with (go_at_call 42; refine (l1In_any _ _ _ _).mono ?_; rintro e w' ⟨rfl, rfl⟩)
  all_goals
    go_ret
    refine ⟨ret_bool ?_, bel_a⟩
    unfold vokB
    first | (simp; omega) | (simp [*]; done) | (simp at *; omega)

end Go.Proofs.Ytbngdlbecdloiaa
namespace Go.Proofs.Ytbngdlbecdloiaa
open Go.RowKit
set_option linter.unusedVariables false
set_option linter.unusedSimpArgs false

def szB (n : Int) : Bool := decide (1 ≤ n ∧ n ≤ 25600)
/-- whether a shape is ok -/
def rdB (k wd h : Int) : Bool := decide (k = 1 ∧ (1 ≤ wd ∧ wd ≤ 25600) ∧ h = 0)
def bxB (k wd h : Int) : Bool := decide (k = 2 ∧ (1 ≤ wd ∧ wd ≤ 25600) ∧ (1 ≤ h ∧ h ≤ 25600))
def shB (k wd h : Int) : Bool := rdB k wd h || bxB k wd h
abbrev s3 (k wd h : Int) : Value := .agg #[.int .i64 k, .int .i64 wd, .int .i64 h]

end Go.Proofs.Ytbngdlbecdloiaa
namespace Go.Proofs.Ytbngdlbecdloiaa
open Go.RowKit
set_option linter.unusedVariables false
set_option linter.unusedSimpArgs false

end Go.Proofs.Ytbngdlbecdloiaa
namespace Go.Proofs.Ytbngdlbecdloiaa
open Go.RowKit
set_option linter.unusedVariables false
set_option linter.unusedSimpArgs false

end Go.Proofs.Ytbngdlbecdloiaa
namespace Go.Proofs.Ytbngdlbecdloiaa
open Go.Shelf
set_option linter.unusedVariables false
def lays189_ren : Go.Shelf.Ren := ⟨fun | 189 => 65 | 125 => 76 | 257 => 75 | 128 => 93 | 129 => 94 | 294 => 84 | 295 => 85 | 296 => 86 | 297 => 87 | 298 => 88 | 299 => 89 | 216 => 90 | 300 => 91 | 301 => 92 | 328 => 97 | 329 => 98 | 330 => 99 | 331 => 100 | 332 => 101 | 215 => 102 | 343 => 105 | n => n, fun | 28 => 40 | 3 => 3 | 46 => 112 | 0 => 0 | 51 => 126 | 53 => 128 | 4 => 4 | 183 => 119 | 182 => 118 | 131 => 67 | 5 => 5 | 9 => 9 | 218 => 130 | 222 => 134 | 228 => 139 | 229 => 140 | n => n, fun | n => n⟩
theorem lays189 : Go.Proofs.Lays.n189 Try.prog lays189_ren := {
  mixed := by kernel_rfl
  f125 := Try.func76.trans (congrArg some (by kernel_rfl))
  f128 := Try.func93.trans (congrArg some (by kernel_rfl))
  f129 := Try.func94.trans (congrArg some (by kernel_rfl))
  f189 := Try.func65.trans (congrArg some (by kernel_rfl))
  f215 := Try.func102.trans (congrArg some (by kernel_rfl))
  f216 := Try.func90.trans (congrArg some (by kernel_rfl))
  f257 := Try.func75.trans (congrArg some (by kernel_rfl))
  f294 := Try.func84.trans (congrArg some (by kernel_rfl))
  f295 := Try.func85.trans (congrArg some (by kernel_rfl))
  f296 := Try.func86.trans (congrArg some (by kernel_rfl))
  f297 := Try.func87.trans (congrArg some (by kernel_rfl))
  f298 := Try.func88.trans (congrArg some (by kernel_rfl))
  f299 := Try.func89.trans (congrArg some (by kernel_rfl))
  f300 := Try.func91.trans (congrArg some (by kernel_rfl))
  f301 := Try.func92.trans (congrArg some (by kernel_rfl))
  f328 := Try.func97.trans (congrArg some (by kernel_rfl))
  f329 := Try.func98.trans (congrArg some (by kernel_rfl))
  f330 := Try.func99.trans (congrArg some (by kernel_rfl))
  f331 := Try.func100.trans (congrArg some (by kernel_rfl))
  f332 := Try.func101.trans (congrArg some (by kernel_rfl))
  f343 := Try.func105.trans (congrArg some (by kernel_rfl))
  t0 := Try.underlying0
  a0 := Try.isAgg0
  z0 := Try.sizeOf0
  v0 := Try.zeroValue0
  t3 := Try.underlying3
  a3 := Try.isAgg3
  z3 := Try.sizeOf3
  v3 := Try.zeroValue3
  t4 := Try.underlying4
  a4 := Try.isAgg4
  z4 := Try.sizeOf4
  v4 := Try.zeroValue4
  t5 := Try.underlying5
  a5 := Try.isAgg5
  z5 := Try.sizeOf5
  v5 := Try.zeroValue5
  t9 := Try.underlying9
  a9 := Try.isAgg9
  z9 := Try.sizeOf9
  v9 := Try.zeroValue9
  t28 := Try.underlying40
  a28 := Try.isAgg40
  z28 := Try.sizeOf40
  v28 := Try.zeroValue40
  t46 := Try.underlying112
  a46 := Try.isAgg112
  z46 := Try.sizeOf112
  v46 := Try.zeroValue112
  t51 := Try.underlying126
  a51 := Try.isAgg126
  z51 := Try.sizeOf126
  v51 := Try.zeroValue126
  t53 := Try.underlying128
  a53 := Try.isAgg128
  z53 := Try.sizeOf128
  v53 := Try.zeroValue128
  t131 := Try.underlying67
  a131 := Try.isAgg67
  z131 := Try.sizeOf67
  v131 := Try.zeroValue67
  t182 := Try.underlying118
  a182 := Try.isAgg118
  z182 := Try.sizeOf118
  v182 := Try.zeroValue118
  t183 := Try.underlying119
  a183 := Try.isAgg119
  z183 := Try.sizeOf119
  v183 := Try.zeroValue119
  t218 := Try.underlying130
  a218 := Try.isAgg130
  z218 := Try.sizeOf130
  v218 := Try.zeroValue130
  t222 := Try.underlying134
  a222 := Try.isAgg134
  z222 := Try.sizeOf134
  v222 := Try.zeroValue134
  t228 := Try.underlying139
  a228 := Try.isAgg139
  z228 := Try.sizeOf139
  v228 := Try.zeroValue139
  t229 := Try.underlying140
  a229 := Try.isAgg140
  z229 := Try.sizeOf140
  v229 := Try.zeroValue140 }
end Go.Proofs.Ytbngdlbecdloiaa
namespace Go.Proofs.Ytbngdlbecdloiaa
theorem head_cut {l : List (List Char)} {c : List Char} (h : (l.head? == some c) = true) : ∃ rest, l = c :: rest := by
  cases l with
  | nil => simp at h
  | cons a r => simp at h; exact ⟨r, by rw [h]⟩
theorem strip_cut (rest : List (List Char)) : stripLifts liftWords ("cut".toList :: rest) = ([], "cut".toList :: rest) := by kernel_rfl
theorem make_of {P : Program} {l : List Char} (h0 : P.initOrder.toList = l) (h1 : ((behindMainWord (wordsSigns l)).head? == some "cut".toList) = true) : P.make = some .cut := by
  obtain ⟨rest, hr⟩ := head_cut h1
  unfold Program.make
  rw [h0, hr]
  rfl
theorem headLifts_of {P : Program} {l : List Char} (h0 : P.initOrder.toList = l) (h1 : ((behindMainWord (wordsSigns l)).head? == some "cut".toList) = true) : P.headLifts = [] := by
  obtain ⟨rest, hr⟩ := head_cut h1
  unfold Program.headLifts
  rw [h0, hr, strip_cut]
  rfl
theorem liftsFinal_of {P : Program} {l : List Char} (h0 : P.initOrder.toList = l) (h1 : ((behindMainWord (wordsSigns l)).head? == some "cut".toList) = true) : P.liftsFinal = false := by
  have hh := headLifts_of h0 h1
  obtain ⟨rest, hr⟩ := head_cut h1
  unfold Program.liftsFinal
  rw [h0, hr, hh]
  rfl
theorem mayEnter_of {P : Program} {l : List Char} (h0 : P.initOrder.toList = l) (h1 : ((behindMainWord (wordsSigns l)).head? == some "cut".toList) = true) (h2 : P.laysLater = false) (h3 : P.bearsReflect = false) (h4 : P.doorFits [] = true) : P.mayEnter = true := by
  obtain ⟨rest, hr⟩ := head_cut h1
  unfold Program.mayEnter
  rw [h0, hr]
  simp only [strip_cut, h2, h3, h4]
  simp
end Go.Proofs.Ytbngdlbecdloiaa
