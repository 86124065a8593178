/- Texts of a proof. -/
import Derived.Test.YtfiaokkolcodgaaGreatRows
import Derived.Test.YtfiaokkolcodgaaGreatB1
import Derived.WalkKit
import Derived.WalkSpells
import Derived.WalkLawsBesides
import Derived.Deep.QuietTactic
import Derived.BigQuiet
import Derived.Deep.RegionWith
import Derived.Deep.RegionHeld3
set_option maxHeartbeats 16000000
set_option maxRecDepth 20000
namespace Go.Proofs.YtfiaokkolcodgaaGreat
open Go.RowKit
theorem held_any (n l : Int) (w : World) (h0 : 0 ≤ l) (h1 : l ≤ 4000000000) :
 Calls Tryz.prog 112 #[.int .i64 n, .int .i64 l] w fun e w' => e = .returned (.int .i64 (clampZ l n)) ∧ w' = w := by
 go_enter Tryz.func112, Tryz.ntmps112
 go_wp2
 all_goals
  go_ret
  refine ⟨ret_int ?_, rfl⟩
  unfold clampZ
  repeat' split
  all_goals (repeat' split at *) <;> omega
theorem sFixClamp_any (n : Int) (w : World) :
 Calls Tryz.prog 104 #[.int .i64 n] w fun e w' => e = .returned (.int .i64 (fc n)) ∧ w' = w := by
 go_enter Tryz.func104, Tryz.ntmps104
 go_wp2
 all_goals
  go_ret
  refine ⟨ret_int ?_, rfl⟩
  unfold fc clampZ
  repeat' split
  all_goals omega
theorem times_any (n m : Int) (w : World) (hn : -1000000000 ≤ n ∧ n ≤ 1000000000) (hm : -1000000000 ≤ m ∧ m ≤ 1000000000) :
 Calls Tryz.prog 126 #[.int .i64 n, .int .i64 m] w fun e w' => e = .returned (.int .i64 (fc ((n * m).tdiv 256))) ∧ w' = w := by
 have hp := mul_bd hn hm
 obtain ⟨p1, p2⟩ := hp
 go_enter Tryz.func126, Tryz.ntmps126
 go_wp2_with (go_at_call 112; refine (held_any _ _ _ (by decide) (by decide)).mono ?_; rintro e w' ⟨rfl, rfl⟩)
 go_ret
 exact ⟨rfl, rfl⟩
end Go.Proofs.YtfiaokkolcodgaaGreat
namespace Go.Proofs.YtfiaokkolcodgaaGreat
open Go.RowKit
set_option linter.unusedVariables false
theorem lt_of_sq {a b : Int} (hb : 0 ≤ b) (h : a * a < b * b) : a < b := by
 rcases Int.lt_or_le a b with k | k
 · exact k
 · have := sq_mono hb k; omega
theorem le_of_sq {a b : Int} (hb : 0 ≤ b) (h : a * a < (b + 1) * (b + 1)) : a ≤ b := by
 have := lt_of_sq (show 0 ≤ b + 1 by omega) h; omega
theorem mid {l h : Int} (a : 0 ≤ l) (b : l + 1 < h) : l < (l + h) / 2 ∧ (l + h) / 2 < h := by omega
theorem l1Root_any (n : Int) (w : World) (h0 : 0 ≤ n) (h1 : n ≤ 2000000000000000000) :
 Calls Tryz.prog 105 #[.int .i64 n] w fun e w' => e = .returned (.int .i64 (rootZ n)) ∧ w' = w := by
 go_enter Tryz.func105, Tryz.ntmps105
 go_wp2
 go_loop [4] (fun t => ∃ h : Int, 1 ≤ h ∧ h ≤ 2828427126 ∧ t = .int .i64 h) (fun t => (2828427126 - intOf t).toNat)
 case atStart => exact ⟨1, by omega, by omega, rfl⟩
 case round =>
  obtain ⟨h, a1, a2, rfl⟩ := hrel
  have hb := mul_bd (a := h) (b := h) (A := 2828427126) (B := 2828427126) (by omega) (by omega)
  obtain ⟨hb1, hb2⟩ := hb
  by_cases hc : h * h ≤ n
  · have hle : h ≤ 1414213563 := le_of_sq (by omega) (by omega)
    go_wp2
    go_round
    case rel => exact ⟨2 * h, by omega, by omega, rfl⟩
    case measure => simp [intOf]; omega
  · go_wp2
    go_loop [3, 4] (fun s t => ∃ l h : Int, 0 ≤ l ∧ l < h ∧ h ≤ 2828427126 ∧ l * l ≤ n ∧ n < h * h ∧ s = .int .i64 l ∧ t = .int .i64 h) (fun s t => (intOf t - intOf s).toNat)
    case atStart => exact ⟨0, h, by omega, by omega, by omega, by omega, by omega, rfl, rfl⟩
    case round =>
     obtain ⟨l, h, b0, b1, b2, b3, b4, rfl, rfl⟩ := hrel
     by_cases hd : 1 < h - l
     · have hm := mid b0 (show l + 1 < h by omega)
       have hb := mul_bd (a := (l + h) / 2) (b := (l + h) / 2) (A := 2828427126) (B := 2828427126) (by omega) (by omega)
       obtain ⟨hb1, hb2⟩ := hb
       obtain ⟨hm1, hm2⟩ := hm
       by_cases he : (l + h) / 2 * ((l + h) / 2) ≤ n
       · go_wp2
         go_round
         case rel => exact ⟨_, h, by omega, hm2, by omega, he, by omega, rfl, rfl⟩
         case measure => simp [intOf]; omega
       · go_wp2
         go_round
         case rel => exact ⟨l, _, by omega, hm1, by omega, b3, by omega, rfl, rfl⟩
         case measure => simp [intOf]; omega
     · have e : h = l + 1 := by omega
       go_wp2
       go_ret
       exact ⟨ret_int (rootZ_of ⟨b0, b3, by rw [← e]; exact b4⟩).symm, rfl⟩
def cellInt (w : World) (a : Addr) : Int := match w.cell? a with | some v => intOf v | none => 0
end Go.Proofs.YtfiaokkolcodgaaGreat
namespace Go.Proofs.YtfiaokkolcodgaaGreat
open Go.RowKit
set_option linter.unusedVariables false
theorem bcell {W w1 : World} (hb : Below W.heap.size W w1) : (∀ b o, b < W.heap.size → w1.cell? ⟨b, o, none⟩ = W.cell? ⟨b, o, none⟩) ∧ (∀ b o, b < W.heap.size → w1.frozen? ⟨b, o, none⟩ = W.frozen? ⟨b, o, none⟩) :=
 ⟨fun b o h => hb.cell (p := ⟨b, o, none⟩) h, fun b o h => hb.frozen (p := ⟨b, o, none⟩) h⟩
theorem belowDrewN {B : Nat} {a w : World} (h : Below B a w) (n : Nat) : Below B a (w.drewN n) := ⟨h.os, h.tape, h.output, h.size, h.block⟩
theorem bel_a {B : Nat} {a w : World} (h : Below B a w := by repeat (first | with_reducible apply Below.refl | (with_reducible apply Below.setCell; rotate_left; focus (first | omega | (simp; done) | (simp; omega))) | (with_reducible apply Below.alloc; rotate_left; focus (first | omega | (simp; done) | (simp; omega))) | with_reducible apply Below.drew | with_reducible apply belowDrewN | (with_reducible apply Below.trans; rotate_left; with_reducible apply Below.mono; with_reducible assumption; focus (first | omega | (simp; done) | (simp; omega))))) : Below B a w := h
theorem cset_map (w : World) (a : Addr) (v : Value) : (w.setCell a v).cell? a = (w.cell? a).map fun _ => v := by
 cases h : w.cell? a with
 | some u => rw [cset_same h]; rfl
 | none =>
  simp only [World.cell?, World.setCell, Array.getElem?_modify, if_true] at *
  cases hb : w.heap[a.block]? with
  | none => simp
  | some o =>
   rw [hb] at h
   cases o with
   | cells c t fr =>
    by_cases hs : a.spot.isSome
    · simp [hs]
    · simp [hs] at h ⊢; omega
   | _ => simp
theorem i64w {n : Int} (h : -9223372036854775808 ≤ n ∧ n ≤ 9223372036854775807) : IntKind.i64.wrap n = n := by
 simp [IntKind.wrap, IntKind.bits, IntKind.signed]; omega
def vdot (x y u v : Int) : Int := fc ((fc x * fc u + fc y * fc v).tdiv 256)
def vl (x y : Int) : Int := clampZ 1000000000 (rootZ (x * x + y * y))
def ux (x y : Int) : Int := if vl x y = 0 then 0 else (x * 256).tdiv (vl x y)
def uy (x y : Int) : Int := if vl x y = 0 then 256 else (y * 256).tdiv (vl x y)
theorem vl_bd (x y : Int) : 0 ≤ vl x y ∧ vl x y ≤ 1000000000 := by
 have h := rootZ_nonneg (x * x + y * y)
 have k := clampZ_bd (l := 1000000000) (rootZ (x * x + y * y)) (by decide)
 refine ⟨?_, k.2⟩
 unfold vl clampZ; repeat' split
 all_goals omega
theorem sq_bd {x y : Int} (hx : -1000000000 ≤ x ∧ x ≤ 1000000000) (hy : -1000000000 ≤ y ∧ y ≤ 1000000000) : 0 ≤ x * x + y * y ∧ x * x + y * y ≤ 2000000000000000000 := by
 have p := mul_bd hx hx
 have q := mul_bd hy hy
 have p0 : 0 ≤ x * x := by rcases Int.le_total 0 x with h | h; exact Int.mul_nonneg h h; exact Int.mul_nonneg_of_nonpos_of_nonpos h h
 have q0 : 0 ≤ y * y := by rcases Int.le_total 0 y with h | h; exact Int.mul_nonneg h h; exact Int.mul_nonneg_of_nonpos_of_nonpos h h
 omega
abbrev vv (x y : Int) : Value := .agg #[.int .i64 x, .int .i64 y]
theorem wayOf_any (x y : Int) (w : World) :
 Calls Tryz.prog 107 #[vv x y] w fun e w' => e = .returned (vv x y) ∧ Below w.heap.size w w' := by
 have hset := cset_map
 go_enter Tryz.func107, Tryz.ntmps107
 go_wp2
 exact bodyPost_ret (v := vv x y) (by simp [results, Tryz.results107, go_sem]) rfl ⟨rfl, bel_a⟩
theorem vec_any (x y : Int) (w : World) :
 Calls Tryz.prog 29 #[vv x y] w fun e w' => e = .returned (vv x y) ∧ Below w.heap.size w w' := by
 have hset := cset_map
 go_enter Tryz.func29, Tryz.ntmps29
 go_wp2
 exact bodyPost_ret (v := vv x y) (by simp [results, Tryz.results29, go_sem]) rfl ⟨rfl, bel_a⟩
theorem plus_any (x y u v : Int) (w : World) (hx : -4000000000 ≤ x ∧ x ≤ 4000000000) (hy : -4000000000 ≤ y ∧ y ≤ 4000000000) (hu : -4000000000 ≤ u ∧ u ≤ 4000000000) (hv : -4000000000 ≤ v ∧ v ≤ 4000000000) :
 Calls Tryz.prog 27 #[vv x y, vv u v] w fun e w' => e = .returned (vv (x + u) (y + v)) ∧ Below w.heap.size w w' := by
 have hset := cset_map
 go_enter Tryz.func27, Tryz.ntmps27
 go_wp2
 exact bodyPost_ret (v := vv (x + u) (y + v)) (by simp [results, Tryz.results27, go_sem]) rfl ⟨rfl, bel_a⟩
theorem less_any (x y u v : Int) (w : World) (hx : -4000000000 ≤ x ∧ x ≤ 4000000000) (hy : -4000000000 ≤ y ∧ y ≤ 4000000000) (hu : -4000000000 ≤ u ∧ u ≤ 4000000000) (hv : -4000000000 ≤ v ∧ v ≤ 4000000000) :
 Calls Tryz.prog 133 #[vv x y, vv u v] w fun e w' => e = .returned (vv (x - u) (y - v)) ∧ Below w.heap.size w w' := by
 have hset := cset_map
 go_enter Tryz.func133, Tryz.ntmps133
 go_wp2
 exact bodyPost_ret (v := vv (x - u) (y - v)) (by simp [results, Tryz.results133, go_sem]) rfl ⟨rfl, bel_a⟩
theorem products_any (x y u v : Int) (w : World) (hx : -1500000000 ≤ x ∧ x ≤ 1500000000) (hy : -1500000000 ≤ y ∧ y ≤ 1500000000) (hu : -1500000000 ≤ u ∧ u ≤ 1500000000) (hv : -1500000000 ≤ v ∧ v ≤ 1500000000) :
 Calls Tryz.prog 134 #[vv x y, vv u v] w fun e w' => e = .returned (.int .i64 (x * u + y * v)) ∧ Below w.heap.size w w' := by
 have p := mul_bd (a := x) (b := u) (A := 1500000000) (B := 1500000000) hx hu
 have q := mul_bd (a := y) (b := v) (A := 1500000000) (B := 1500000000) hy hv
 have hset := cset_map
 go_enter Tryz.func134, Tryz.ntmps134
 go_wp2
 go_ret
 exact ⟨rfl, bel_a⟩
theorem wayHeld_any (x y l : Int) (w : World) (h0 : 0 ≤ l) (h1 : l ≤ 4000000000) :
 Calls Tryz.prog 113 #[vv x y, .int .i64 l] w fun e w' => e = .returned (vv (clampZ l x) (clampZ l y)) ∧ Below w.heap.size w w' := by
 have hset := cset_map
 go_enter Tryz.func113, Tryz.ntmps113
 go_wp2
 go_region_with (go_at_call 112; refine (held_any _ _ _ h0 h1).mono ?_; rintro e w' ⟨rfl, rfl⟩)
 all_goals
  go_wp2
  exact bodyPost_ret (v := vv (clampZ l x) (clampZ l y)) (by simp [results, Tryz.results113, go_sem]) rfl ⟨rfl, bel_a⟩
def vokB (x y : Int) : Bool := decide (-1000000000 ≤ x ∧ x ≤ 1000000000 ∧ -1000000000 ≤ y ∧ y ≤ 1000000000)
def inB (l x y : Int) : Bool := decide (-l ≤ x ∧ x ≤ l ∧ -l ≤ y ∧ y ≤ l)
theorem within_any (n l : Int) (w : World) (h0 : 0 ≤ l) (h1 : l ≤ 4000000000) :
 Calls Tryz.prog 123 #[.int .i64 n, .int .i64 l] w fun e w' => e = .returned (.bool (decide (-l ≤ n ∧ n ≤ l))) ∧ w' = w := by
 go_enter Tryz.func123, Tryz.ntmps123
 go_wp2
 all_goals
  go_ret
  refine ⟨ret_bool ?_, rfl⟩
  first | (simp; omega) | (simp; done)
theorem within2_any (x y l : Int) (w : World) (h0 : 0 ≤ l) (h1 : l ≤ 4000000000) :
 Calls Tryz.prog 79 #[vv x y, .int .i64 l] w fun e w' => e = .returned (.bool (inB l x y)) ∧ Below w.heap.size w w' := by
 go_enter Tryz.func79, Tryz.ntmps79
 go_wp2_with (go_at_call 123; refine (within_any _ _ _ h0 h1).mono ?_; rintro e w' ⟨rfl, rfl⟩)
 all_goals
  go_ret
  refine ⟨ret_bool ?_, bel_a⟩
  unfold inB
  first | (simp; omega) | (simp [*]; done) | (simp at *; omega)
end Go.Proofs.YtfiaokkolcodgaaGreat
namespace Go.Proofs.YtfiaokkolcodgaaGreat
open Go.RowKit
set_option linter.unusedVariables false
set_option linter.unusedSimpArgs false
theorem l2Clamp_any (x y : Int) (w : World) :
 Calls Tryz.prog 59 #[vv x y] w fun e w' => e = .returned (vv (fc x) (fc y)) ∧ Below w.heap.size w w' := by
 have hset := cset_map
 go_enter Tryz.func59, Tryz.ntmps59
 go_wp2
 go_region_with (go_at_call 104; refine (sFixClamp_any _ _).mono ?_; rintro e w' ⟨rfl, rfl⟩)
 all_goals
  go_wp2
  exact bodyPost_ret (v := vv (fc x) (fc y)) (by simp [results, Tryz.results59, go_sem, *]) rfl ⟨rfl, bel_a⟩
theorem l1In_any (n l h : Int) (w : World) :
 Calls Tryz.prog 41 #[.int .i64 n, .int .i64 l, .int .i64 h] w fun e w' => e = .returned (.bool (decide (l ≤ n ∧ n ≤ h))) ∧ w' = w := by
 go_enter Tryz.func41, Tryz.ntmps41
 go_wp2
 all_goals
  go_ret
  refine ⟨ret_bool ?_, rfl⟩
  first | (simp; omega) | (simp; done)
theorem sVecSub_any (x y u v : Int) (w : World) :
 Calls Tryz.prog 120 #[vv x y, vv u v] w fun e w' => e = .returned (vv (fc (fc x - fc u)) (fc (fc y - fc v))) ∧ Below w.heap.size w w' := by
 have hx := fc_bd x
 have hy := fc_bd y
 have hu := fc_bd u
 have hv := fc_bd v
 have hset := cset_map
 go_enter Tryz.func120, Tryz.ntmps120
 go_wp2_with (go_at_call 59; refine (l2Clamp_any _ _ _).mono ?_; rintro e w1 ⟨rfl, hb1⟩; obtain ⟨hc1, hf1⟩ := bcell hb1; have hz1 := hb1.size; (try simp at hz1); have hq1x0a : w.heap.size < w1.heap.size := (by omega); have hq1x1a : w.heap.size + 1 < w1.heap.size := (by omega); have hq1x2a : w.heap.size + 1 + 1 < w1.heap.size := (by omega); have hq1x2b : w.heap.size + 2 < w1.heap.size := (by omega))
 exact bodyPost_ret (v := vv (fc (fc x - fc u)) (fc (fc y - fc v))) (by simp [results, Tryz.results120, go_sem, *]) rfl ⟨rfl, bel_a⟩
theorem sVecDot_any (x y u v : Int) (w : World) :
 Calls Tryz.prog 119 #[vv x y, vv u v] w fun e w' => e = .returned (.int .i64 (vdot x y u v)) ∧ Below w.heap.size w w' := by
 have hx := fc_bd x
 have hy := fc_bd y
 have hu := fc_bd u
 have hv := fc_bd v
 have p := mul_bd hx hu
 have q := mul_bd hy hv
 have hset := cset_map
 go_enter Tryz.func119, Tryz.ntmps119
 go_wp2_with (first
  | (go_at_call 59; refine (l2Clamp_any _ _ _).mono ?_; rintro e w1 ⟨rfl, hb1⟩; obtain ⟨hc1, hf1⟩ := bcell hb1; have hz1 := hb1.size; (try simp at hz1); have hq1x0a : w.heap.size < w1.heap.size := (by omega); have hq1x1a : w.heap.size + 1 < w1.heap.size := (by omega))
  | (go_at_call 104; refine (sFixClamp_any _ _).mono ?_; rintro e w' ⟨rfl, rfl⟩))
 go_ret
 exact ⟨rfl, bel_a⟩
def szB (n : Int) : Bool := decide (1 ≤ n ∧ n ≤ 25600)
theorem isSize_any (n : Int) (w : World) :
 Calls Tryz.prog 135 #[.int .i64 n] w fun e w' => e = .returned (.bool (szB n)) ∧ w' = w := by
 go_enter Tryz.func135, Tryz.ntmps135
 go_wp2
 all_goals
  go_ret
  refine ⟨ret_bool ?_, rfl⟩
  unfold szB
  first | (simp; omega) | (simp; done)
def rdB (k wd h : Int) : Bool := decide (k = 1 ∧ (1 ≤ wd ∧ wd ≤ 25600) ∧ h = 0)
def bxB (k wd h : Int) : Bool := decide (k = 2 ∧ (1 ≤ wd ∧ wd ≤ 25600) ∧ (1 ≤ h ∧ h ≤ 25600))
def shB (k wd h : Int) : Bool := rdB k wd h || bxB k wd h
abbrev s3 (k wd h : Int) : Value := .agg #[.int .i64 k, .int .i64 wd, .int .i64 h]
theorem figureOf_round (wd : Int) (w : World) (h1 : 1 ≤ wd) (h2 : wd ≤ 25600) :
 Calls Tryz.prog 122 #[s3 1 wd 0] w fun e w' => e = .returned (.tuple #[.iface 158 (.agg #[.int .i64 wd]), .bool true]) ∧ Below w.heap.size w w' := by
 have hs : szB wd = true := by unfold szB; simp; omega
 go_enter Tryz.func122, Tryz.ntmps122
 go_wp2_with (go_at_call 135; refine (isSize_any _ _).mono ?_; rintro e w' ⟨rfl, rfl⟩)
 go_ret2
 exact ⟨rfl, (Below.refl _ _).alloc (Nat.le_refl _) _⟩
theorem figureOf_box (wd h : Int) (w : World) (h1 : 1 ≤ wd) (h2 : wd ≤ 25600) (h3 : 1 ≤ h) (h4 : h ≤ 25600) :
 Calls Tryz.prog 122 #[s3 2 wd h] w fun e w' => e = .returned (.tuple #[.iface 160 (.agg #[.int .i64 wd, .int .i64 h]), .bool true]) ∧ Below w.heap.size w w' := by
 have hs : szB wd = true := by unfold szB; simp; omega
 have hs2 : szB h = true := by unfold szB; simp; omega
 go_enter Tryz.func122, Tryz.ntmps122
 go_wp2_with (go_at_call 135; refine (isSize_any _ _).mono ?_; rintro e w' ⟨rfl, rfl⟩)
 go_ret2
 exact ⟨rfl, (Below.refl _ _).alloc (Nat.le_refl _) _⟩
theorem figureOf_none (k wd h : Int) (w : World) (hn : shB k wd h = false) :
 Calls Tryz.prog 122 #[s3 k wd h] w fun e w' => e = .returned (.tuple #[.nilIface, .bool false]) ∧ Below w.heap.size w w' := by
 have HN : Hid (¬ ((k = 1 ∧ (1 ≤ wd ∧ wd ≤ 25600) ∧ h = 0) ∨ (k = 2 ∧ (1 ≤ wd ∧ wd ≤ 25600) ∧ (1 ≤ h ∧ h ≤ 25600)))) := by
  unfold shB rdB bxB at hn
  simp only [Bool.or_eq_false_iff, decide_eq_false_iff_not] at hn
  rintro (h | h)
  · exact hn.1 h
  · exact hn.2 h
 clear hn
 have hsz : Hid (∀ n, szB n = true → 1 ≤ n ∧ n ≤ 25600) := by intro n hn; unfold szB at hn; simpa using hn
 go_enter Tryz.func122, Tryz.ntmps122
 go_wp2_with (go_at_call 135; refine (isSize_any _ _).mono ?_; rintro e w' ⟨rfl, rfl⟩)
 all_goals
  first
   | (go_ret2; exact ⟨rfl, (Below.refl _ _).alloc (Nat.le_refl _) _⟩)
   | (exfalso; subst k; exact HN.out (.inl ⟨rfl, hsz.out _ ‹_›, by simpa using ‹(h == 0) = true›⟩))
   | (exfalso; subst k; exact HN.out (.inr ⟨rfl, hsz.out _ ‹szB wd = true›, hsz.out _ ‹szB h = true›⟩))
theorem shapeOk_any (k wd h : Int) (w : World) :
 Calls Tryz.prog 78 #[s3 k wd h] w fun e w' => e = .returned (.bool (shB k wd h)) ∧ Below w.heap.size w w' := by
 by_cases hr : rdB k wd h = true
 · have e : shB k wd h = true := by unfold shB; rw [hr]; rfl
   have E : Hid (shB k wd h = true) := e
   clear e
   unfold rdB at hr
   obtain ⟨rfl, ⟨h1, h2⟩, rfl⟩ := of_decide_eq_true hr
   clear hr
   go_enter Tryz.func78, Tryz.ntmps78
   go_wp2_with (go_at_call 122; refine (figureOf_round _ _ h1 h2).mono ?_; rintro e w1 ⟨rfl, hb1⟩)
   go_ret
   exact ⟨ret_bool E.out.symm, ((Below.refl _ _).alloc (Nat.le_refl _) _).trans (hb1.mono (by simp))⟩
 · by_cases hb : bxB k wd h = true
   · have e : shB k wd h = true := by unfold shB; rw [hb]; simp
     have E : Hid (shB k wd h = true) := e
     clear e hr
     unfold bxB at hb
     obtain ⟨rfl, ⟨h1, h2⟩, h3, h4⟩ := of_decide_eq_true hb
     clear hb
     go_enter Tryz.func78, Tryz.ntmps78
     go_wp2_with (go_at_call 122; refine (figureOf_box _ _ _ h1 h2 h3 h4).mono ?_; rintro e w1 ⟨rfl, hb1⟩)
     go_ret
     exact ⟨ret_bool E.out.symm, ((Below.refl _ _).alloc (Nat.le_refl _) _).trans (hb1.mono (by simp))⟩
   · have e : shB k wd h = false := by unfold shB; simp [hr, hb]
     have E : Hid (shB k wd h = false) := e
     clear e hr hb
     go_enter Tryz.func78, Tryz.ntmps78
     go_wp2_with (go_at_call 122; refine (figureOf_none _ _ _ _ E.out).mono ?_; rintro e w1 ⟨rfl, hb1⟩)
     go_ret
     exact ⟨ret_bool E.out.symm, ((Below.refl _ _).alloc (Nat.le_refl _) _).trans (hb1.mono (by simp))⟩
theorem sShapeOk_any (k wd h : Int) (w : World) :
 Calls Tryz.prog 45 #[s3 k wd h] w fun e w' => e = .returned (.bool (shB k wd h)) ∧ Below w.heap.size w w' := by
 go_enter Tryz.func45, Tryz.ntmps45
 go_wp2_with (go_at_call 41; refine (l1In_any _ _ _ _).mono ?_; rintro e w' ⟨rfl, rfl⟩)
 all_goals
  go_ret
  refine ⟨ret_bool ?_, (Below.refl _ _).alloc (Nat.le_refl _) _⟩
  unfold shB rdB bxB
  first | (simp [*]; done) | (simp at *; subst k; simp [*]; done) | (simp at *; subst k; simp [*]; rfl) | (simp at *; subst k; simp; omega) | (simp at *; simp [*]; done)
abbrev b4 (a b c d : Int) : Value := .agg #[.int .i64 a, .int .i64 b, .int .i64 c, .int .i64 d]
def leB (x y u v : Int) : Bool := decide (x ≤ u ∧ y ≤ v)
def bokB (a b c d : Int) : Bool := vokB a b && (vokB c d && leB a b c d)
def ptB (a b c d x y : Int) : Bool := decide ((a ≤ x ∧ x ≤ c) ∧ (b ≤ y ∧ y ≤ d))
theorem l3Meets_any (a b c d r s t u : Int) (w : World) :
 Calls Tryz.prog 129 #[b4 a b c d, b4 r s t u] w fun e w' => e = .returned (.bool (leB a b t u && leB r s c d)) ∧ Below w.heap.size w w' := by
 have hset := cset_map
 go_enter Tryz.func129, Tryz.ntmps129
 go_wp2
 all_goals
  go_ret
  refine ⟨ret_bool ?_, bel_a⟩
  unfold leB
  first | (simp [*]; done) | (simp at *; omega) | (simp [*]; omega)
theorem l3Point_any (a b c d x y : Int) (w : World) :
 Calls Tryz.prog 130 #[b4 a b c d, vv x y] w fun e w' => e = .returned (.bool (ptB a b c d x y)) ∧ Below w.heap.size w w' := by
 have hset := cset_map
 go_enter Tryz.func130, Tryz.ntmps130
 go_wp2_with (go_at_call 41; refine (l1In_any _ _ _ _).mono ?_; rintro e w' ⟨rfl, rfl⟩)
 all_goals
  go_ret
  refine ⟨ret_bool ?_, bel_a⟩
  unfold ptB
  first | (simp [*]; done) | (simp at *; omega) | (simp [*]; omega)
theorem wayTimes_any (x y n : Int) (w : World) (hx : -1000000000 ≤ x ∧ x ≤ 1000000000) (hy : -1000000000 ≤ y ∧ y ≤ 1000000000) (hn : -1000000000 ≤ n ∧ n ≤ 1000000000) :
 Calls Tryz.prog 82 #[vv x y, .int .i64 n] w fun e w' => e = .returned (vv (fc ((x * n).tdiv 256)) (fc ((y * n).tdiv 256))) ∧ Below w.heap.size w w' := by
 have hset := cset_map
 go_enter Tryz.func82, Tryz.ntmps82
 go_wp2
 go_region_with (go_at_call 126; refine (times_any _ _ _ (by omega) (by omega)).mono ?_; rintro e w' ⟨rfl, rfl⟩)
 all_goals
  go_wp2
  exact bodyPost_ret (v := vv (fc ((x * n).tdiv 256)) (fc ((y * n).tdiv 256))) (by simp [results, Tryz.results82, go_sem, *]) rfl ⟨rfl, bel_a⟩
theorem dot_any (x y u v : Int) (w : World) (hx : -1000000000 ≤ x ∧ x ≤ 1000000000) (hy : -1000000000 ≤ y ∧ y ≤ 1000000000) (hu : -1000000000 ≤ u ∧ u ≤ 1000000000) (hv : -1000000000 ≤ v ∧ v ≤ 1000000000) :
 Calls Tryz.prog 111 #[vv x y, vv u v] w fun e w' => e = .returned (.int .i64 (fc ((x * u + y * v).tdiv 256))) ∧ Below w.heap.size w w' := by
 have p := mul_bd (A := 1000000000) (B := 1000000000) hx hu
 have q := mul_bd (A := 1000000000) (B := 1000000000) hy hv
 have ht := i64w (n := (x * u + y * v).tdiv 256) (by have := tdiv_bd (x := x * u + y * v) (B := 2000000000000000000) 256 (by omega); omega)
 have hset := cset_map
 go_enter Tryz.func111, Tryz.ntmps111
 go_wp2_with (first
  | (go_at_call 134; refine (products_any _ _ _ _ _ (by omega) (by omega) (by omega) (by omega)).mono ?_; rintro e w2 ⟨rfl, hb2⟩; obtain ⟨hc2, hf2⟩ := bcell hb2; have hz2 := hb2.size; (try simp at hz2); have hq2x0a : w.heap.size < w2.heap.size := (by omega); have hq2x1a : w.heap.size + 1 < w2.heap.size := (by omega))
  | (go_at_call 112; refine (held_any _ _ _ (by omega) (by omega)).mono ?_; rintro e w' ⟨rfl, rfl⟩))
 all_goals
  go_ret
  exact ⟨rfl, bel_a⟩
end Go.Proofs.YtfiaokkolcodgaaGreat
