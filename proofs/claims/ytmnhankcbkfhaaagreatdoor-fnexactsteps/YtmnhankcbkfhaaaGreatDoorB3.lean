/- Texts of a proof. -/
import Derived.Test.YtmnhankcbkfhaaaGreatDoorRows
import Derived.Test.YtmnhankcbkfhaaaGreatDoorB1
import Derived.WalkKit
import Derived.WalkSpells
import Derived.WalkLawsBesides
import Derived.Deep.QuietTactic
import Derived.BigQuiet
import Derived.Deep.RegionWith
import Derived.Laws.World
import Derived.Deep.RegionHeld3
import Derived.Deep.Slices
import Derived.ChangeSame
import Derived.ChangeArms
set_option maxHeartbeats 16000000
set_option maxRecDepth 20000
namespace Go.Proofs.YtmnhankcbkfhaaaGreatDoor
open Go.RowKit
theorem held_any (n l : Int) (w : World) (h0 : 0 ≤ l) (h1 : l ≤ 4000000000) :
 Calls Tryz.prog 140 #[.int .i64 n, .int .i64 l] w fun e w' => e = .returned (.int .i64 (clampZ l n)) ∧ w' = w := by
 go_enter Tryz.func140, Tryz.ntmps140
 go_wp2
 all_goals
  go_ret
  refine ⟨ret_int ?_, rfl⟩
  unfold clampZ
  repeat' split
  all_goals (repeat' split at *) <;> omega
theorem sFixClamp_any (n : Int) (w : World) :
 Calls Tryz.prog 132 #[.int .i64 n] w fun e w' => e = .returned (.int .i64 (fc n)) ∧ w' = w := by
 go_enter Tryz.func132, Tryz.ntmps132
 go_wp2
 all_goals
  go_ret
  refine ⟨ret_int ?_, rfl⟩
  unfold fc clampZ
  repeat' split
  all_goals omega
theorem times_any (n m : Int) (w : World) (hn : -1000000000 ≤ n ∧ n ≤ 1000000000) (hm : -1000000000 ≤ m ∧ m ≤ 1000000000) :
 Calls Tryz.prog 170 #[.int .i64 n, .int .i64 m] w fun e w' => e = .returned (.int .i64 (fc ((n * m).tdiv 256))) ∧ w' = w := by
 have hp := mul_bd hn hm
 obtain ⟨p1, p2⟩ := hp
 go_enter Tryz.func170, Tryz.ntmps170
 go_wp2_with (go_at_call 140; refine (held_any _ _ _ (by decide) (by decide)).mono ?_; rintro e w' ⟨rfl, rfl⟩)
 go_ret
 exact ⟨rfl, rfl⟩
end Go.Proofs.YtmnhankcbkfhaaaGreatDoor
namespace Go.Proofs.YtmnhankcbkfhaaaGreatDoor
open Go.RowKit
set_option linter.unusedVariables false
theorem lt_of_sq {a b : Int} (hb : 0 ≤ b) (h : a * a < b * b) : a < b := by
 rcases Int.lt_or_le a b with k | k
 · exact k
 · have := sq_mono hb k; omega
theorem le_of_sq {a b : Int} (hb : 0 ≤ b) (h : a * a < (b + 1) * (b + 1)) : a ≤ b := by
 have := lt_of_sq (show 0 ≤ b + 1 by omega) h; omega
theorem mid {l h : Int} (a : 0 ≤ l) (b : l + 1 < h) : l < (l + h) / 2 ∧ (l + h) / 2 < h := by omega
theorem l1Root_any (n : Int) (w : World) (h0 : 0 ≤ n) (h1 : n ≤ 2000000000000000000) :
 Calls Tryz.prog 133 #[.int .i64 n] w fun e w' => e = .returned (.int .i64 (rootZ n)) ∧ w' = w := by
 go_enter Tryz.func133, Tryz.ntmps133
 go_wp2
 go_loop [4] (fun t => ∃ h : Int, 1 ≤ h ∧ h ≤ 2828427126 ∧ t = .int .i64 h) (fun t => (2828427126 - intOf t).toNat)
 case atStart => exact ⟨1, by omega, by omega, rfl⟩
 case round =>
  obtain ⟨h, a1, a2, rfl⟩ := hrel
  have hb := mul_bd (a := h) (b := h) (A := 2828427126) (B := 2828427126) (by omega) (by omega)
  obtain ⟨hb1, hb2⟩ := hb
  by_cases hc : h * h ≤ n
  · have hle : h ≤ 1414213563 := le_of_sq (by omega) (by omega)
    go_wp2
    go_round
    case rel => exact ⟨2 * h, by omega, by omega, rfl⟩
    case measure => simp [intOf]; omega
  · go_wp2
    go_loop [3, 4] (fun s t => ∃ l h : Int, 0 ≤ l ∧ l < h ∧ h ≤ 2828427126 ∧ l * l ≤ n ∧ n < h * h ∧ s = .int .i64 l ∧ t = .int .i64 h) (fun s t => (intOf t - intOf s).toNat)
    case atStart => exact ⟨0, h, by omega, by omega, by omega, by omega, by omega, rfl, rfl⟩
    case round =>
     obtain ⟨l, h, b0, b1, b2, b3, b4, rfl, rfl⟩ := hrel
     by_cases hd : 1 < h - l
     · have hm := mid b0 (show l + 1 < h by omega)
       have hb := mul_bd (a := (l + h) / 2) (b := (l + h) / 2) (A := 2828427126) (B := 2828427126) (by omega) (by omega)
       obtain ⟨hb1, hb2⟩ := hb
       obtain ⟨hm1, hm2⟩ := hm
       by_cases he : (l + h) / 2 * ((l + h) / 2) ≤ n
       · go_wp2
         go_round
         case rel => exact ⟨_, h, by omega, hm2, by omega, he, by omega, rfl, rfl⟩
         case measure => simp [intOf]; omega
       · go_wp2
         go_round
         case rel => exact ⟨l, _, by omega, hm1, by omega, b3, by omega, rfl, rfl⟩
         case measure => simp [intOf]; omega
     · have e : h = l + 1 := by omega
       go_wp2
       go_ret
       exact ⟨ret_int (rootZ_of ⟨b0, b3, by rw [← e]; exact b4⟩).symm, rfl⟩
def cellInt (w : World) (a : Addr) : Int := match w.cell? a with | some v => intOf v | none => 0
theorem cellInt_of {w : World} {a : Addr} {k : IntKind} {n : Int} (h : w.cell? a = some (.int k n)) : cellInt w a = n := by simp [cellInt, h, intOf]
theorem narrow_any (B : Nat) (n l h : Int) (w : World) (hl : w.cell? ⟨B + 1, 0, none⟩ = some (.int .i64 l)) (hh : w.cell? ⟨B + 2, 0, none⟩ = some (.int .i64 h)) (hn : w.cell? ⟨B, 0, none⟩ = some (.int .i64 n))
 (fl : w.frozen? ⟨B + 1, 0, none⟩ = false) (fh : w.frozen? ⟨B + 2, 0, none⟩ = false) (a0 : 0 ≤ l) (a1 : l + 1 < h) (a2 : h ≤ 2147483648) :
 Calls Tryz.prog 187 #[.pointer (some ⟨B + 1, 0, none⟩), .pointer (some ⟨B + 2, 0, none⟩), .pointer (some ⟨B, 0, none⟩)] w fun e w' => ∃ l' h' : Int,
  e = .returned (.bool (decide (1 < h' - l'))) ∧ 0 ≤ l' ∧ l' < h' ∧ h' ≤ 2147483648 ∧ h' - l' < h - l ∧ (l' = l ∨ l' * l' ≤ n) ∧ (h' = h ∨ n < h' * h') ∧
  w'.cell? ⟨B + 1, 0, none⟩ = some (.int .i64 l') ∧ w'.cell? ⟨B + 2, 0, none⟩ = some (.int .i64 h') ∧ w'.cell? ⟨B, 0, none⟩ = some (.int .i64 n) ∧
  w'.frozen? ⟨B + 1, 0, none⟩ = false ∧ w'.frozen? ⟨B + 2, 0, none⟩ = false ∧ Below B w w' := by
 have hm := mid a0 a1
 have hb := mul_bd (a := (l + h) / 2) (b := (l + h) / 2) (A := 2147483648) (B := 2147483648) (by omega) (by omega)
 obtain ⟨hb1, hb2⟩ := hb
 obtain ⟨hm1, hm2⟩ := hm
 by_cases he : (l + h) / 2 * ((l + h) / 2) ≤ n
 · go_enter Tryz.func187, Tryz.ntmps187
   go_wp2
   go_ret
   exact ⟨(l + h) / 2, h, rfl, by omega, by omega, by omega, by omega, .inr he, .inl rfl, cset_same hl, by rw [cset_far (by simp)]; exact hh,
    by rw [cset_far (by simp)]; exact hn, by simpa using fl, by simpa using fh, (Below.refl _ _).setCell (by simp) _⟩
 · go_enter Tryz.func187, Tryz.ntmps187
   go_wp2
   go_ret
   exact ⟨l, (l + h) / 2, rfl, by omega, by omega, by omega, by omega, .inl rfl, .inr (by omega), by rw [cset_far (by simp)]; exact hl, cset_same hh,
    by rw [cset_far (by simp)]; exact hn, by simpa using fl, by simpa using fh, (Below.refl _ _).setCell (by simp) _⟩
theorem root_any (n : Int) (w : World) (h1 : n ≤ 2000000000000000000) :
 Calls Tryz.prog 186 #[.int .i64 n] w fun e w' => e = .returned (.int .i64 (rootZ n)) ∧ Below w.heap.size w w' := by
 go_enter Tryz.func186, Tryz.ntmps186
 go_wp2
 go_loopw [] (fun wr => ∃ l h : Int, 0 ≤ l ∧ l + 1 < h ∧ h ≤ 2147483648 ∧ (l = 0 ∨ l * l ≤ n) ∧ n < h * h ∧
  wr.cell? ⟨w.heap.size + 1, 0, none⟩ = some (.int .i64 l) ∧ wr.cell? ⟨w.heap.size + 2, 0, none⟩ = some (.int .i64 h) ∧ wr.cell? ⟨w.heap.size, 0, none⟩ = some (.int .i64 n) ∧
  wr.frozen? ⟨w.heap.size + 1, 0, none⟩ = false ∧ wr.frozen? ⟨w.heap.size + 2, 0, none⟩ = false ∧ Below w.heap.size w wr)
  (fun wr => (cellInt wr ⟨w.heap.size + 2, 0, none⟩ - cellInt wr ⟨w.heap.size + 1, 0, none⟩).toNat)
 case atStart =>
  refine ⟨0, 2147483648, by omega, by omega, by omega, .inl rfl, by omega, ?_, ?_, ?_, ?_, ?_, ?_⟩
  iterate 5 go_simp
  exact (((Below.refl _ _).alloc (Nat.le_refl _) _).alloc (by simp) _).alloc (by simp; omega) _
 case round =>
  obtain ⟨l, h, a0, a1, a2, a3, a4, c1, c2, c0, f1, f2, hbel⟩ := hrel
  go_wp2_with (go_at_call 187; refine (narrow_any _ _ _ _ _ c1 c2 c0 f1 f2 a0 a1 a2).mono ?_; rintro e w1 ⟨l', h', rfl, b0, b1, b2, b3, b4, b5, d1, d2, d0, g1, g2, hb1⟩)
  · go_roundw
    case rel => exact ⟨l', h', by omega, by omega, by omega, by rcases b4 with rfl | k; exact a3; exact .inr k, by rcases b5 with rfl | k; exact a4; exact k, d1, d2, d0, g1, g2, hbel.trans hb1⟩
    case measure => simp only [cellInt_of c1, cellInt_of c2, cellInt_of d1, cellInt_of d2]; omega
  · go_ret
    refine ⟨ret_int ?_, hbel.trans hb1⟩
    have e : h' = l' + 1 := by omega
    have q4 : n < (l' + 1) * (l' + 1) := by rw [← e]; rcases b5 with rfl | k; exact a4; exact k
    have q3 : l' = 0 ∨ l' * l' ≤ n := by rcases b4 with rfl | k; exact a3; exact .inr k
    rcases q3 with rfl | q3
    · by_cases hn : n < 0
      · rw [rootZ_neg hn]
      · exact (rootZ_of ⟨by omega, by omega, q4⟩).symm
    · exact (rootZ_of ⟨b0, q3, q4⟩).symm
end Go.Proofs.YtmnhankcbkfhaaaGreatDoor
namespace Go.Proofs.YtmnhankcbkfhaaaGreatDoor
open Go.RowKit
set_option linter.unusedVariables false
theorem bcell {W w1 : World} (hb : Below W.heap.size W w1) : (∀ b o, b < W.heap.size → w1.cell? ⟨b, o, none⟩ = W.cell? ⟨b, o, none⟩) ∧ (∀ b o, b < W.heap.size → w1.frozen? ⟨b, o, none⟩ = W.frozen? ⟨b, o, none⟩) :=
 ⟨fun b o h => hb.cell (p := ⟨b, o, none⟩) h, fun b o h => hb.frozen (p := ⟨b, o, none⟩) h⟩
theorem blt {W w1 : World} (hb : Below W.heap.size W w1) : ∀ b, b < W.heap.size → b < w1.heap.size := fun b h => Nat.lt_of_lt_of_le h hb.size
theorem belowDrewN {B : Nat} {a w : World} (h : Below B a w) (n : Nat) : Below B a (w.drewN n) := ⟨h.os, h.tape, h.output, h.size, h.block⟩
theorem bel_a {B : Nat} {a w : World} (h : Below B a w := by repeat (first | with_reducible apply Below.refl | (with_reducible apply Below.setCell; rotate_left; focus (first | omega | (simp; done) | (simp; omega))) | (with_reducible apply Below.alloc; rotate_left; focus (first | omega | (simp; done) | (simp; omega))) | with_reducible apply Below.drew | with_reducible apply belowDrewN | (with_reducible apply Below.trans; rotate_left; with_reducible apply Below.mono; with_reducible assumption; focus (first | omega | (simp; done) | (simp; omega))))) : Below B a w := h
theorem cset_map (w : World) (a : Addr) (v : Value) : (w.setCell a v).cell? a = (w.cell? a).map fun _ => v := by
 cases h : w.cell? a with
 | some u => rw [cset_same h]; rfl
 | none =>
  simp only [World.cell?, World.setCell, Array.getElem?_modify, if_true] at *
  cases hb : w.heap[a.block]? with
  | none => simp
  | some o =>
   rw [hb] at h
   cases o with
   | cells c t fr =>
    by_cases hs : a.spot.isSome
    · simp [hs]
    · simp [hs] at h ⊢; omega
   | _ => simp
theorem i64w {n : Int} (h : -9223372036854775808 ≤ n ∧ n ≤ 9223372036854775807) : IntKind.i64.wrap n = n := by
 simp [IntKind.wrap, IntKind.bits, IntKind.signed]; omega
def vdot (x y u v : Int) : Int := fc ((fc x * fc u + fc y * fc v).tdiv 256)
def vl (x y : Int) : Int := clampZ 1000000000 (rootZ (x * x + y * y))
def ux (x y : Int) : Int := if vl x y = 0 then 0 else (x * 256).tdiv (vl x y)
def uy (x y : Int) : Int := if vl x y = 0 then 256 else (y * 256).tdiv (vl x y)
theorem vl_bd (x y : Int) : 0 ≤ vl x y ∧ vl x y ≤ 1000000000 := by
 have h := rootZ_nonneg (x * x + y * y)
 have k := clampZ_bd (l := 1000000000) (rootZ (x * x + y * y)) (by decide)
 refine ⟨?_, k.2⟩
 unfold vl clampZ; repeat' split
 all_goals omega
theorem sq_bd {x y : Int} (hx : -1000000000 ≤ x ∧ x ≤ 1000000000) (hy : -1000000000 ≤ y ∧ y ≤ 1000000000) : 0 ≤ x * x + y * y ∧ x * x + y * y ≤ 2000000000000000000 := by
 have p := mul_bd hx hx
 have q := mul_bd hy hy
 have p0 : 0 ≤ x * x := by rcases Int.le_total 0 x with h | h; exact Int.mul_nonneg h h; exact Int.mul_nonneg_of_nonpos_of_nonpos h h
 have q0 : 0 ≤ y * y := by rcases Int.le_total 0 y with h | h; exact Int.mul_nonneg h h; exact Int.mul_nonneg_of_nonpos_of_nonpos h h
 omega
abbrev vv (x y : Int) : Value := .agg #[.int .i64 x, .int .i64 y]
theorem wayOf_any (x y : Int) (w : World) :
 Calls Tryz.prog 161 #[vv x y] w fun e w' => e = .returned (vv x y) ∧ Below w.heap.size w w' := by
 have hset := cset_map
 go_enter Tryz.func161, Tryz.ntmps161
 go_wp2
 exact bodyPost_ret (v := vv x y) (by simp [results, Tryz.results161, go_sem]) rfl ⟨rfl, bel_a⟩
theorem vec_any (x y : Int) (w : World) :
 Calls Tryz.prog 89 #[vv x y] w fun e w' => e = .returned (vv x y) ∧ Below w.heap.size w w' := by
 have hset := cset_map
 go_enter Tryz.func89, Tryz.ntmps89
 go_wp2
 exact bodyPost_ret (v := vv x y) (by simp [results, Tryz.results89, go_sem]) rfl ⟨rfl, bel_a⟩
theorem plus_any (x y u v : Int) (w : World) (hx : -4000000000 ≤ x ∧ x ≤ 4000000000) (hy : -4000000000 ≤ y ∧ y ≤ 4000000000) (hu : -4000000000 ≤ u ∧ u ≤ 4000000000) (hv : -4000000000 ≤ v ∧ v ≤ 4000000000) :
 Calls Tryz.prog 144 #[vv x y, vv u v] w fun e w' => e = .returned (vv (x + u) (y + v)) ∧ Below w.heap.size w w' := by
 have hset := cset_map
 go_enter Tryz.func144, Tryz.ntmps144
 go_wp2
 exact bodyPost_ret (v := vv (x + u) (y + v)) (by simp [results, Tryz.results144, go_sem]) rfl ⟨rfl, bel_a⟩
theorem less_any (x y u v : Int) (w : World) (hx : -4000000000 ≤ x ∧ x ≤ 4000000000) (hy : -4000000000 ≤ y ∧ y ≤ 4000000000) (hu : -4000000000 ≤ u ∧ u ≤ 4000000000) (hv : -4000000000 ≤ v ∧ v ≤ 4000000000) :
 Calls Tryz.prog 121 #[vv x y, vv u v] w fun e w' => e = .returned (vv (x - u) (y - v)) ∧ Below w.heap.size w w' := by
 have hset := cset_map
 go_enter Tryz.func121, Tryz.ntmps121
 go_wp2
 exact bodyPost_ret (v := vv (x - u) (y - v)) (by simp [results, Tryz.results121, go_sem]) rfl ⟨rfl, bel_a⟩
theorem products_any (x y u v : Int) (w : World) (hx : -1500000000 ≤ x ∧ x ≤ 1500000000) (hy : -1500000000 ≤ y ∧ y ≤ 1500000000) (hu : -1500000000 ≤ u ∧ u ≤ 1500000000) (hv : -1500000000 ≤ v ∧ v ≤ 1500000000) :
 Calls Tryz.prog 179 #[vv x y, vv u v] w fun e w' => e = .returned (.int .i64 (x * u + y * v)) ∧ Below w.heap.size w w' := by
 have p := mul_bd (a := x) (b := u) (A := 1500000000) (B := 1500000000) hx hu
 have q := mul_bd (a := y) (b := v) (A := 1500000000) (B := 1500000000) hy hv
 have hset := cset_map
 go_enter Tryz.func179, Tryz.ntmps179
 go_wp2
 go_ret
 exact ⟨rfl, bel_a⟩
theorem wayHeld_any (x y l : Int) (w : World) (h0 : 0 ≤ l) (h1 : l ≤ 4000000000) :
 Calls Tryz.prog 123 #[vv x y, .int .i64 l] w fun e w' => e = .returned (vv (clampZ l x) (clampZ l y)) ∧ Below w.heap.size w w' := by
 have hset := cset_map
 go_enter Tryz.func123, Tryz.ntmps123
 go_wp2
 go_region_with (go_at_call 140; refine (held_any _ _ _ h0 h1).mono ?_; rintro e w' ⟨rfl, rfl⟩)
 all_goals
  go_wp2
  exact bodyPost_ret (v := vv (clampZ l x) (clampZ l y)) (by simp [results, Tryz.results123, go_sem]) rfl ⟨rfl, bel_a⟩
def vokB (x y : Int) : Bool := decide (-1000000000 ≤ x ∧ x ≤ 1000000000 ∧ -1000000000 ≤ y ∧ y ≤ 1000000000)
def inB (l x y : Int) : Bool := decide (-l ≤ x ∧ x ≤ l ∧ -l ≤ y ∧ y ≤ l)
theorem within_any (n l : Int) (w : World) (h0 : 0 ≤ l) (h1 : l ≤ 4000000000) :
 Calls Tryz.prog 135 #[.int .i64 n, .int .i64 l] w fun e w' => e = .returned (.bool (decide (-l ≤ n ∧ n ≤ l))) ∧ w' = w := by
 go_enter Tryz.func135, Tryz.ntmps135
 go_wp2
 all_goals
  go_ret
  refine ⟨ret_bool ?_, rfl⟩
  first | (simp; omega) | (simp; done)
theorem within2_any (x y l : Int) (w : World) (h0 : 0 ≤ l) (h1 : l ≤ 4000000000) :
 Calls Tryz.prog 110 #[vv x y, .int .i64 l] w fun e w' => e = .returned (.bool (inB l x y)) ∧ Below w.heap.size w w' := by
 go_enter Tryz.func110, Tryz.ntmps110
 go_wp2_with (go_at_call 135; refine (within_any _ _ _ h0 h1).mono ?_; rintro e w' ⟨rfl, rfl⟩)
 all_goals
  go_ret
  refine ⟨ret_bool ?_, bel_a⟩
  unfold inB
  first | (simp; omega) | (simp [*]; done) | (simp at *; omega)
end Go.Proofs.YtmnhankcbkfhaaaGreatDoor
namespace Go.Proofs.YtmnhankcbkfhaaaGreatDoor
open Go.RowKit
theorem zz : (∀ w : World, w.drew.heap.size = w.heap.size) ∧ (∀ (w : World) (o : Obj), (w.alloc o).heap.size = w.heap.size + 1) ∧ (∀ (w : World) (a : Addr) (v : Value), (w.setCell a v).heap.size = w.heap.size) :=
 ⟨World.size_drew, World.size_alloc, World.size_setCell⟩
end Go.Proofs.YtmnhankcbkfhaaaGreatDoor
namespace Go.Proofs.YtmnhankcbkfhaaaGreatDoor
open Go.RowKit
set_option linter.unusedVariables false
set_option linter.unusedSimpArgs false
theorem l2Clamp_any (x y : Int) (w : World) :
 Calls Tryz.prog 131 #[vv x y] w fun e w' => e = .returned (vv (fc x) (fc y)) ∧ Below w.heap.size w w' := by
 have hset := cset_map
 go_enter Tryz.func131, Tryz.ntmps131
 go_wp2
 go_region_with (go_at_call 132; refine (sFixClamp_any _ _).mono ?_; rintro e w' ⟨rfl, rfl⟩)
 all_goals
  go_wp2
  exact bodyPost_ret (v := vv (fc x) (fc y)) (by simp [results, Tryz.results131, go_sem, *]) rfl ⟨rfl, bel_a⟩
theorem l1In_any (n l h : Int) (w : World) :
 Calls Tryz.prog 15 #[.int .i64 n, .int .i64 l, .int .i64 h] w fun e w' => e = .returned (.bool (decide (l ≤ n ∧ n ≤ h))) ∧ w' = w := by
 go_enter Tryz.func15, Tryz.ntmps15
 go_wp2
 all_goals
  go_ret
  refine ⟨ret_bool ?_, rfl⟩
  first | (simp; omega) | (simp; done)
theorem sVecSub_any (x y u v : Int) (w : World) :
 Calls Tryz.prog 107 #[vv x y, vv u v] w fun e w' => e = .returned (vv (fc (fc x - fc u)) (fc (fc y - fc v))) ∧ Below w.heap.size w w' := by
 have hx := fc_bd x
 have hy := fc_bd y
 have hu := fc_bd u
 have hv := fc_bd v
 have hset := cset_map
 go_enter Tryz.func107, Tryz.ntmps107
 go_wp2_with (go_at_call 131; refine (l2Clamp_any _ _ _).mono ?_; rintro e w1 ⟨rfl, hb1⟩; obtain ⟨hc1, hf1⟩ := bcell hb1; have hz1 := hb1.size; (try simp at hz1); have hq1x0a : w.heap.size < w1.heap.size := (by omega); have hq1x1a : w.heap.size + 1 < w1.heap.size := (by omega); have hq1x2a : w.heap.size + 1 + 1 < w1.heap.size := (by omega); have hq1x2b : w.heap.size + 2 < w1.heap.size := (by omega))
 exact bodyPost_ret (v := vv (fc (fc x - fc u)) (fc (fc y - fc v))) (by simp [results, Tryz.results107, go_sem, *]) rfl ⟨rfl, bel_a⟩
theorem sVecDot_any (x y u v : Int) (w : World) :
 Calls Tryz.prog 106 #[vv x y, vv u v] w fun e w' => e = .returned (.int .i64 (vdot x y u v)) ∧ Below w.heap.size w w' := by
 have hx := fc_bd x
 have hy := fc_bd y
 have hu := fc_bd u
 have hv := fc_bd v
 have p := mul_bd hx hu
 have q := mul_bd hy hv
 have hset := cset_map
 go_enter Tryz.func106, Tryz.ntmps106
 go_wp2_with (first
  | (go_at_call 131; refine (l2Clamp_any _ _ _).mono ?_; rintro e w1 ⟨rfl, hb1⟩; obtain ⟨hc1, hf1⟩ := bcell hb1; have hz1 := hb1.size; (try simp at hz1); have hq1x0a : w.heap.size < w1.heap.size := (by omega); have hq1x1a : w.heap.size + 1 < w1.heap.size := (by omega))
  | (go_at_call 132; refine (sFixClamp_any _ _).mono ?_; rintro e w' ⟨rfl, rfl⟩))
 go_ret
 exact ⟨rfl, bel_a⟩
abbrev b4 (a b c d : Int) : Value := .agg #[.int .i64 a, .int .i64 b, .int .i64 c, .int .i64 d]
def leB (x y u v : Int) : Bool := decide (x ≤ u ∧ y ≤ v)
def bokB (a b c d : Int) : Bool := vokB a b && (vokB c d && leB a b c d)
theorem noneGreater_any (x y u v : Int) (w : World) :
 Calls Tryz.prog 183 #[vv x y, vv u v] w fun e w' => e = .returned (.bool (leB x y u v)) ∧ Below w.heap.size w w' := by
 have hset := cset_map
 go_enter Tryz.func183, Tryz.ntmps183
 go_wp2
 all_goals
  go_ret
  refine ⟨ret_bool ?_, bel_a⟩
  unfold leB
  first | (simp; done) | (simp; omega) | (simp at *; omega)
theorem l2Square_any (x y : Int) (w : World) (hx : -1500000000 ≤ x ∧ x ≤ 1500000000) (hy : -1500000000 ≤ y ∧ y ≤ 1500000000) :
 Calls Tryz.prog 98 #[vv x y] w fun e w' => e = .returned (.int .i64 (x * x + y * y)) ∧ Below w.heap.size w w' := by
 have p := mul_bd (a := x) (b := x) (A := 1500000000) (B := 1500000000) hx hx
 have q := mul_bd (a := y) (b := y) (A := 1500000000) (B := 1500000000) hy hy
 have hset := cset_map
 go_enter Tryz.func98, Tryz.ntmps98
 go_wp2
 go_ret
 exact ⟨rfl, bel_a⟩
theorem sVecLen_any (x y : Int) (w : World) :
 Calls Tryz.prog 100 #[vv x y] w fun e w' => e = .returned (.int .i64 (vl (fc x) (fc y))) ∧ Below w.heap.size w w' := by
 have hx := fc_bd x
 have hy := fc_bd y
 have hs := sq_bd hx hy
 have hset := cset_map
 go_enter Tryz.func100, Tryz.ntmps100
 go_wp2_with (first
  | (go_at_call 131; refine (l2Clamp_any _ _ _).mono ?_; rintro e w1 ⟨rfl, hb1⟩; obtain ⟨hc1, hf1⟩ := bcell hb1; have hz1 := hb1.size; (try simp at hz1); have hq1x0a : w.heap.size < w1.heap.size := (by omega))
  | (go_at_call 98; refine (l2Square_any _ _ _ (by omega) (by omega)).mono ?_; rintro e w2 ⟨rfl, hb2⟩; obtain ⟨hc2, hf2⟩ := bcell hb2; have hz2 := hb2.size; (try simp at hz2); have hq2x0a : w.heap.size < w2.heap.size := (by omega))
  | (go_at_call 133; refine (l1Root_any _ _ (by omega) (by omega)).mono ?_; rintro e w' ⟨rfl, rfl⟩)
  | (go_at_call 132; refine (sFixClamp_any _ _).mono ?_; rintro e w' ⟨rfl, rfl⟩))
 go_ret
 exact ⟨rfl, bel_a⟩
theorem sVecUnit_any (x y : Int) (w : World) :
 Calls Tryz.prog 99 #[vv x y] w fun e w' => e = .returned (vv (ux (fc x) (fc y)) (uy (fc x) (fc y))) ∧ Below w.heap.size w w' := by
 have hx := fc_bd x
 have hy := fc_bd y
 have hl := vl_bd (fc x) (fc y)
 have f1 := fc_fc x
 have f2 := fc_fc y
 by_cases h0 : vl (fc x) (fc y) = 0
 · have e1 : ux (fc x) (fc y) = 0 := if_pos h0
   have e2 : uy (fc x) (fc y) = 256 := if_pos h0
   have hset := cset_map
   go_enter Tryz.func99, Tryz.ntmps99
   go_wp2_with (first
   | (go_at_call 131; refine (l2Clamp_any _ _ _).mono ?_; rintro e w1 ⟨rfl, hb1⟩; obtain ⟨hc1, hf1⟩ := bcell hb1; have hz1 := hb1.size; (try simp at hz1); have hq1x0a : w.heap.size < w1.heap.size := (by omega); have hq1x1a : w.heap.size + 1 < w1.heap.size := (by omega))
   | (go_at_call 100; refine (sVecLen_any _ _ _).mono ?_; rintro e w6 ⟨rfl, hb6⟩; obtain ⟨hc6, hf6⟩ := bcell hb6; have hz6 := hb6.size; (try simp at hz6); have hq6x0a : w.heap.size < w6.heap.size := (by omega); have hq6x1a : w.heap.size + 1 < w6.heap.size := (by omega)))
   exact bodyPost_ret (v := vv 0 256) (by simp [results, Tryz.results99, go_sem, *]) rfl ⟨by rw [e1, e2], bel_a⟩
 · have t1 := w64 (n := (fc x * 256).tdiv (vl (fc x) (fc y))) (by have := tdiv_bd (x := fc x * 256) (B := 256000000000) (vl (fc x) (fc y)) (by omega); omega)
   have t2 := w64 (n := (fc y * 256).tdiv (vl (fc x) (fc y))) (by have := tdiv_bd (x := fc y * 256) (B := 256000000000) (vl (fc x) (fc y)) (by omega); omega)
   have s1 := i64w (n := (fc x * 256).tdiv (vl (fc x) (fc y))) (by have := tdiv_bd (x := fc x * 256) (B := 256000000000) (vl (fc x) (fc y)) (by omega); omega)
   have s2 := i64w (n := (fc y * 256).tdiv (vl (fc x) (fc y))) (by have := tdiv_bd (x := fc y * 256) (B := 256000000000) (vl (fc x) (fc y)) (by omega); omega)
   have E1 : Hid (ux (fc x) (fc y) = (fc x * 256).tdiv (vl (fc x) (fc y))) := if_neg h0
   have E2 : Hid (uy (fc x) (fc y) = (fc y * 256).tdiv (vl (fc x) (fc y))) := if_neg h0
   have hset := cset_map
   go_enter Tryz.func99, Tryz.ntmps99
   go_wp2_with (first
   | (go_at_call 131; refine (l2Clamp_any _ _ _).mono ?_; rintro e w1 ⟨rfl, hb1⟩; obtain ⟨hc1, hf1⟩ := bcell hb1; have hz1 := hb1.size; (try simp at hz1); have hq1x0a : w.heap.size < w1.heap.size := (by omega); have hq1x1a : w.heap.size + 1 < w1.heap.size := (by omega))
   | (go_at_call 100; refine (sVecLen_any _ _ _).mono ?_; rintro e w6 ⟨rfl, hb6⟩; obtain ⟨hc6, hf6⟩ := bcell hb6; have hz6 := hb6.size; (try simp at hz6); have hq6x0a : w.heap.size < w6.heap.size := (by omega); have hq6x1a : w.heap.size + 1 < w6.heap.size := (by omega)))
   go_region
   all_goals
    go_wp2
    exact bodyPost_ret (v := vv ((fc x * 256).tdiv (vl (fc x) (fc y))) ((fc y * 256).tdiv (vl (fc x) (fc y)))) (by simp [results, Tryz.results99, go_sem, *]) rfl ⟨by rw [E1.out, E2.out], bel_a⟩
end Go.Proofs.YtmnhankcbkfhaaaGreatDoor
namespace Go.Proofs.YtmnhankcbkfhaaaGreatDoor
open Go.RowKit Go.ChangeShapes Go.WideShapes Go.Deep
set_option linter.unusedVariables false
set_option linter.unusedSimpArgs false
def IntsOf (P : Program) (e : TypeId) (k : Nat) : Prop :=
 ∀ (H : Type) (enc : TypeId × Value → H) (w : World) (base : Nat) (spare : Nat → Bool) (held : Bool) (fuel : Nat) (cs : List Value) (x : DataW H × List MemPlace),
  DataW.trod enc P w base spare held fuel e cs = some x → cs.length = k ∧ ∀ j, j < k → ∃ v : Int, cs[j]? = some (.int .i64 v) ∧ (Lit.int .i64 v).wf = true
theorem IntsOf.int {P : Program} {e : TypeId} (h : P.underlying e = some (.int .i64)) : IntsOf P e 1 := by
 intro H enc w base spare held fuel cs x hx
 obtain ⟨v, h1, _, h3⟩ := DataW.trod_int h hx
 subst h1
 refine ⟨rfl, fun j hj => ?_⟩
 obtain rfl : j = 0 := by omega
 exact ⟨v, rfl, h3⟩
theorem IntsOf.struct {P : Program} {t : TypeId} {k : Nat} {fs : Array Field} (cs_ : List Nat) (ht : P.underlying t = some (.struct fs)) (hk : P.cellsOf t = k)
 (hf : ∀ (i : Nat) (f : Field) (c : Nat), fs[i]? = some f → cs_[i]? = some c → P.cellsOf f.type = c ∧ IntsOf P f.type c)
 (cover : (List.range k).all (fun j => (List.range fs.size).any fun i => match fs[i]?, cs_[i]? with | some f, some c => decide (f.offset ≤ j ∧ j < f.offset + c) | _, _ => false) = true) : IntsOf P t k := by
 intro H enc w base spare held fuel cs x hx
 obtain ⟨xs, n, _, _, hl, hlen, hg⟩ := DataW.trod_struct ht hx
 rw [hk] at hl
 refine ⟨hl, fun j hj => ?_⟩
 rw [List.all_eq_true] at cover
 have c1 := cover j (List.mem_range.2 hj)
 rw [List.any_eq_true] at c1
 obtain ⟨i, hi, hm⟩ := c1
 have hi' := List.mem_range.1 hi
 cases hfi : fs[i]? with
 | none => simp [hfi] at hm
 | some f =>
  cases hci : cs_[i]? with
  | none => simp [hfi, hci] at hm
  | some c =>
   simp only [hfi, hci, decide_eq_true_eq] at hm
   obtain ⟨hc, hI⟩ := hf i f c hfi hci
   have g := hg i f hfi
   rw [hc] at g
   have hxi : i < xs.length := by rw [hlen]; exact hi'
   rw [List.getElem?_eq_getElem hxi] at g
   obtain ⟨_, q⟩ := hI H enc w base spare held _ _ _ g
   obtain ⟨v, hv, hw⟩ := q (j - f.offset) (by omega)
   refine ⟨v, ?_, hw⟩
   rw [List.getElem?_take, if_pos (by omega), List.getElem?_drop, show f.offset + (j - f.offset) = j by omega] at hv
   exact hv
theorem open_flat {P : Program} {t e : TypeId} {k : Nat} (hk0 : 0 < k) (ht : P.underlying t = some (.slice e)) (hk : P.cellsOf e = k) (hE : IntsOf P e k)
 {H : Type} {enc : TypeId × Value → H} {w : World} {base : Nat} {spare : Nat → Bool} {held : Bool} {fuel : Nat} {v : Value} {x : DataW H × List MemPlace}
 (h : DataW.trod enc P w base spare held fuel t [v] = some x) :
 ∃ (a : Option Addr) (n c : Nat) (U : Nat → Int), v = .slice a n c ∧ (n : Int) ≤ 9223372036854775807 ∧ Flat w a (n * k) U ∧ ∀ q, q < n * k → (Lit.int .i64 (U q)).wf = true := by
 rcases open_slice ht h with ⟨hc, _⟩ | ⟨a, len, cap, m, fu, D, Pl, hc, hb, hl, hm, hmm, _, hall⟩
 · simp only [List.cons.injEq, and_true] at hc
   subst hc
   exact ⟨none, 0, 0, fun _ => 0, rfl, by omega, by rw [Nat.zero_mul]; exact Flat.nil, fun q hq => by omega⟩
 · simp only [List.cons.injEq, and_true] at hc
   subst hc
   have hlm : len ≤ m := by rw [hmm]; split <;> omega
   have one : ∀ q, q < len * k → ∃ z : Int, w.cell? (a.add q) = some (.int .i64 z) ∧ (Lit.int .i64 z).wf = true := by
    intro q hq
    have hi : q / k < len := Nat.div_lt_of_lt_mul (by rw [Nat.mul_comm]; exact hq)
    obtain ⟨cs', h1, h2⟩ := hall (q / k) (by omega)
    obtain ⟨_, hlen, hcell⟩ := World.cells?_some h1
    obtain ⟨_, hv⟩ := hE H enc w base spare held _ _ _ h2
    obtain ⟨z, hz, hw⟩ := hv (q % k) (Nat.mod_lt _ hk0)
    have := hcell (q % k) (by rw [hk]; exact Nat.mod_lt _ hk0)
    rw [hz, hk, add_add, Nat.mul_comm, Nat.div_add_mod] at this
    exact ⟨z, this, hw⟩
   obtain ⟨U, hU⟩ := choose_lt one
   refine ⟨some a, len, cap, U, rfl, by unfold maxLen at hm; omega, ?_, fun q hq => (hU q hq).2⟩
   intro h0
   obtain ⟨b, o, spot⟩ := a
   have g0 := (hU 0 h0).1
   have hspot : spot = none := by simpa [Addr.add] using World.cell?_spot g0
   subst hspot
   have hbl := World.block_lt_of_cell? w _ g0
   simp only [Addr.add, if_true] at hbl
   refine ⟨b, o, rfl, hbl, fun q hq => ?_⟩
   have := (hU q hq).1
   by_cases hq0 : q = 0
   · subst hq0; simpa [Addr.add] using this
   · simpa [Addr.add, hq0] using this
end Go.Proofs.YtmnhankcbkfhaaaGreatDoor
namespace Go.Proofs.YtmnhankcbkfhaaaGreatDoor
open Go.RowKit Go.ChangeShapes Go.WideShapes Go.Deep
set_option linter.unusedVariables false
set_option linter.unusedSimpArgs false
theorem cellsI : Tryz.prog.cellsOf 3 = 1 := by kernel_rfl
theorem cellsV : Tryz.prog.cellsOf 42 = 2 := by kernel_rfl
theorem cellsSh : Tryz.prog.cellsOf 41 = 3 := by kernel_rfl
theorem cellsBd : Tryz.prog.cellsOf 44 = 12 := by kernel_rfl
theorem intsI : IntsOf Tryz.prog 3 1 := IntsOf.int Tryz.underlying3
theorem intsV : IntsOf Tryz.prog 42 2 := IntsOf.struct [1, 1] Tryz.underlying42 (by kernel_rfl) (fun i f c h1 h2 => match i, h1, h2 with
 | 0, h1, h2 => by cases h1; cases h2; exact ⟨cellsI, intsI⟩
 | 1, h1, h2 => by cases h1; cases h2; exact ⟨cellsI, intsI⟩
 | _ + 2, h1, h2 => by simp at h2) (by decide)
theorem intsSh : IntsOf Tryz.prog 41 3 := IntsOf.struct [1, 1, 1] Tryz.underlying41 (by kernel_rfl) (fun i f c h1 h2 => match i, h1, h2 with
 | 0, h1, h2 => by cases h1; cases h2; exact ⟨cellsI, intsI⟩
 | 1, h1, h2 => by cases h1; cases h2; exact ⟨cellsI, intsI⟩
 | 2, h1, h2 => by cases h1; cases h2; exact ⟨cellsI, intsI⟩
 | _ + 3, h1, h2 => by simp at h2) (by decide)
theorem intsBd : IntsOf Tryz.prog 44 12 := IntsOf.struct [1, 3, 2, 2, 1, 1, 1, 1] Tryz.underlying44 (by kernel_rfl) (fun i f c h1 h2 => match i, h1, h2 with
 | 0, h1, h2 => by cases h1; cases h2; exact ⟨cellsI, intsI⟩
 | 1, h1, h2 => by cases h1; cases h2; exact ⟨cellsSh, intsSh⟩
 | 2, h1, h2 => by cases h1; cases h2; exact ⟨cellsV, intsV⟩
 | 3, h1, h2 => by cases h1; cases h2; exact ⟨cellsV, intsV⟩
 | 4, h1, h2 => by cases h1; cases h2; exact ⟨cellsI, intsI⟩
 | 5, h1, h2 => by cases h1; cases h2; exact ⟨cellsI, intsI⟩
 | 6, h1, h2 => by cases h1; cases h2; exact ⟨cellsI, intsI⟩
 | 7, h1, h2 => by cases h1; cases h2; exact ⟨cellsI, intsI⟩
 | _ + 8, h1, h2 => by simp at h2) (by decide)
theorem open_bodies {H : Type} {enc : TypeId × Value → H} {W : World} {base b0 : Nat} {spare : Nat → Bool} {held : Bool} {v : Value} {d : DataW H} {p : List MemPlace}
 (hv : Value.okWide Tryz.prog W .any b0 22 v) (h : DataW.Trod enc Tryz.prog W base spare held 22 v d p) :
 ∃ (a : Option Addr) (n c : Nat) (U : Nat → Int), v = .slice a n c ∧ (n : Int) ≤ 9223372036854775807 ∧ Flat W a (n * 12) U ∧ ∀ q, q < n * 12 → (Lit.int .i64 (U q)).wf = true := by
 obtain ⟨a0, len, cap, rfl⟩ := okWide_slice Tryz.underlying22 hv
 obtain ⟨fuel, hf⟩ := h
 exact open_flat (by decide) Tryz.underlying22 cellsBd intsBd hf
end Go.Proofs.YtmnhankcbkfhaaaGreatDoor
