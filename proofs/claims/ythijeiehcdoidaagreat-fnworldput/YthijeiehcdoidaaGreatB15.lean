/- Texts of a proof. -/
import Derived.Test.YthijeiehcdoidaaGreatB12
import Derived.Test.YthijeiehcdoidaaGreatB10
import Derived.Deep.RegionHeld3
import Derived.Deep.DeepCutAuto
import Derived.Test.YthijeiehcdoidaaGreatB13
set_option maxHeartbeats 16000000
set_option maxRecDepth 20000
namespace Go.Proofs.YthijeiehcdoidaaGreat
open Go.RowKit
set_option linter.unusedVariables false
set_option linter.unusedSimpArgs false
def liveV (V : Nat → Int) : Bool := decide (0 < V 8) && !decide (8 ≤ V 11)
def pullV (g : Int) (V : Nat → Int) : Nat → Int := bif liveV V then setV V 7 (clampZ 20000000 (V 7 - g * V 8)) else V
theorem live_t {V : Nat → Int} (h1 : 0 < V 8) (h2 : decide (8 ≤ V 11) = false) : liveV V = true := by unfold liveV; rw [h2]; simp [h1]
theorem live_m {V : Nat → Int} (h1 : ¬ 0 < V 8) : liveV V = false := by unfold liveV; simp [h1]
theorem live_s {V : Nat → Int} (h2 : decide (8 ≤ V 11) = true) : liveV V = false := by unfold liveV; rw [h2]; simp
theorem l9Pull_any (a : Option Addr) (n c : Nat) (U : Nat → Int) (gg : Int) (w : World) (h : Flat w a (n * 12) U) (hn : n ≤ 1048576) (hg0 : 0 ≤ gg ∧ gg ≤ 2560) (hbb : Bods n U) :
 Calls Tryz.prog 145 #[.slice a n c, .int .i64 gg] w fun e w' => ∃ a1 c1, e = .returned (.slice a1 n c1) ∧ OutL w w' 41 12 a1 n c1 (mapR (fun _ V => pullV gg V) U n) := by
 have hset := cset_map
 go_enter Tryz.func145, Tryz.ntmps145
 go_upto_region 1 with fail
 go_cut [5] (fun s0 wc => ∃ a1 c1, s0 = .slice a1 n c1 ∧ OutL w wc 41 12 a1 n c1 U)
 case first =>
  go_wp2_with (go_at_call 72; refine (l8Copy_any a n c U _ h hn).mono ?_; rintro e w3 ⟨a1, c1, rfl, hO⟩)
  go_meet
  exact ⟨_, _, rfl, hO⟩
 case rest =>
 obtain ⟨a1, c1, rfl, hO⟩ := hcut
 go_upto_region 3 with fail
 go_loopw [6, 7] (fun s _ wr => ∃ k : Nat, k ≤ n ∧ s = .int .i64 (k : Int) ∧ OutL w wr 41 12 a1 n c1 (mapR (fun _ V => pullV gg V) U k)) (fun s _ _ => n - (intOf s).toNat)
 case atStart => exact ⟨0, Nat.zero_le _, rfl, by rw [mapR_0]; exact hO⟩
 case round =>
  clear hO
  obtain ⟨k, hk, rfl, hO⟩ := hrel
  by_cases hlt : k < n
  · have hkn : (k : Int) < (n : Int) := by omega
    obtain ⟨g, rfl, hg1, hg2⟩ := hO.own.loc (by omega)
    have d0 : wr.cell? ⟨g, k * 12, none⟩ = some (.int .i64 (U (k * 12))) := by have q := hO.own.cellq (q := k * 12 + 0) (by omega); rw [mapR_row] at q; exact q
    have d1 : wr.cell? ⟨g, k * 12 + 1, none⟩ = some (.int .i64 (U (k * 12 + 1))) := by have q := hO.own.cellq (q := k * 12 + 1) (by omega); rw [mapR_row] at q; exact q
    have d2 : wr.cell? ⟨g, k * 12 + 2, none⟩ = some (.int .i64 (U (k * 12 + 2))) := by have q := hO.own.cellq (q := k * 12 + 2) (by omega); rw [mapR_row] at q; exact q
    have d3 : wr.cell? ⟨g, k * 12 + 3, none⟩ = some (.int .i64 (U (k * 12 + 3))) := by have q := hO.own.cellq (q := k * 12 + 3) (by omega); rw [mapR_row] at q; exact q
    have d4 : wr.cell? ⟨g, k * 12 + 4, none⟩ = some (.int .i64 (U (k * 12 + 4))) := by have q := hO.own.cellq (q := k * 12 + 4) (by omega); rw [mapR_row] at q; exact q
    have d5 : wr.cell? ⟨g, k * 12 + 5, none⟩ = some (.int .i64 (U (k * 12 + 5))) := by have q := hO.own.cellq (q := k * 12 + 5) (by omega); rw [mapR_row] at q; exact q
    have d6 : wr.cell? ⟨g, k * 12 + 6, none⟩ = some (.int .i64 (U (k * 12 + 6))) := by have q := hO.own.cellq (q := k * 12 + 6) (by omega); rw [mapR_row] at q; exact q
    have d7 : wr.cell? ⟨g, k * 12 + 7, none⟩ = some (.int .i64 (U (k * 12 + 7))) := by have q := hO.own.cellq (q := k * 12 + 7) (by omega); rw [mapR_row] at q; exact q
    have d8 : wr.cell? ⟨g, k * 12 + 8, none⟩ = some (.int .i64 (U (k * 12 + 8))) := by have q := hO.own.cellq (q := k * 12 + 8) (by omega); rw [mapR_row] at q; exact q
    have d9 : wr.cell? ⟨g, k * 12 + 9, none⟩ = some (.int .i64 (U (k * 12 + 9))) := by have q := hO.own.cellq (q := k * 12 + 9) (by omega); rw [mapR_row] at q; exact q
    have d10 : wr.cell? ⟨g, k * 12 + 10, none⟩ = some (.int .i64 (U (k * 12 + 10))) := by have q := hO.own.cellq (q := k * 12 + 10) (by omega); rw [mapR_row] at q; exact q
    have d11 : wr.cell? ⟨g, k * 12 + 11, none⟩ = some (.int .i64 (U (k * 12 + 11))) := by have q := hO.own.cellq (q := k * 12 + 11) (by omega); rw [mapR_row] at q; exact q
    have df := hO.own.fro
    have bd := bodyB_bd (hbb.ok k hlt)
    obtain ⟨⟨m0, m1⟩, _, _, _, _, ⟨e0, e1⟩, _⟩ := bd
    (try simp only at m0 m1 e0 e1)
    obtain ⟨SL, hSL⟩ : ∃ b, decide (8 ≤ (fun j => U (k * 12 + j)) 11) = b := ⟨_, rfl⟩
    by_cases hm : 0 < U (k * 12 + 8)
    · cases SL with
      | true =>
       have HNO : Shut (mapR (fun _ V => pullV gg V) U (k + 1) = mapR (fun _ V => pullV gg V) U k) := mapR_same (fun j hj => by show pullV gg (fun j => U (k * 12 + j)) j = _; unfold pullV; rw [live_s hSL]; rfl)
       have hE : Below wr.heap.size wr (wr.alloc (Obj.cells #[.int .i64 (U (k * 12)), .int .i64 (U (k * 12 + 1)), .int .i64 (U (k * 12 + 2)), .int .i64 (U (k * 12 + 3)), .int .i64 (U (k * 12 + 4)), .int .i64 (U (k * 12 + 5)), .int .i64 (U (k * 12 + 6)), .int .i64 (U (k * 12 + 7)), .int .i64 (U (k * 12 + 8)), .int .i64 (U (k * 12 + 9)), .int .i64 (U (k * 12 + 10)), .int .i64 (U (k * 12 + 11))] 41)) := (Below.refl _ _).alloc (Nat.le_refl _) _
       go_wp2_with (go_at_call 160; refine (l6Sleeps_k (fun j => U (k * 12 + j)) _ true hSL).mono ?_; rintro e w5 ⟨rfl, hb5⟩)
       go_roundw
       case rel => exact ⟨k + 1, by omega, by go_num, by rw [HNO.out]; exact (hO.on hE).on hb5⟩
       case measure => simp [intOf]; omega
      | false =>
       have hlv : liveV (fun j => U (k * 12 + j)) = true := live_t (V := (fun j => U (k * 12 + j))) hm hSL
       obtain ⟨pm, hpm⟩ : ∃ pm, gg * U (k * 12 + 8) = pm := ⟨_, rfl⟩
       have hpb := mul_bd (a := gg) (b := U (k * 12 + 8)) (A := 2560) (B := 1000) (by omega) (by omega)
       rw [hpm] at hpb
       obtain ⟨y, hy⟩ : ∃ y, clampZ 20000000 (U (k * 12 + 7) - pm) = y := ⟨_, rfl⟩
       have hw1 : IntKind.i64.wrap pm = pm := i64w (by omega)
       have hw2 : IntKind.i64.wrap (U (k * 12 + 7) - pm) = U (k * 12 + 7) - pm := i64w (by omega)
       have HS : Shut (putRow (mapR (fun _ V => pullV gg V) U k) k (fun j => if j = 7 then y else U (k * 12 + j)) = mapR (fun _ V => pullV gg V) U (k + 1)) := by
        show _ = _
        rw [← mapR_set]
        congr 1
        funext j
        show _ = pullV gg (fun j => U (k * 12 + j)) j
        unfold pullV
        rw [hlv]
        show _ = setV (fun j => U (k * 12 + j)) 7 (clampZ 20000000 (U (k * 12 + 7) - gg * U (k * 12 + 8))) j
        rw [hpm, hy]
        rfl
       clear hlv
       have hE : Below wr.heap.size wr (wr.alloc (Obj.cells #[.int .i64 (U (k * 12)), .int .i64 (U (k * 12 + 1)), .int .i64 (U (k * 12 + 2)), .int .i64 (U (k * 12 + 3)), .int .i64 (U (k * 12 + 4)), .int .i64 (U (k * 12 + 5)), .int .i64 (U (k * 12 + 6)), .int .i64 (U (k * 12 + 7)), .int .i64 (U (k * 12 + 8)), .int .i64 (U (k * 12 + 9)), .int .i64 (U (k * 12 + 10)), .int .i64 (U (k * 12 + 11))] 41)) := (Below.refl _ _).alloc (Nat.le_refl _) _
       have hO2 := hO.on hE
       have hz2 : wr.heap.size < (wr.alloc (Obj.cells #[.int .i64 (U (k * 12)), .int .i64 (U (k * 12 + 1)), .int .i64 (U (k * 12 + 2)), .int .i64 (U (k * 12 + 3)), .int .i64 (U (k * 12 + 4)), .int .i64 (U (k * 12 + 5)), .int .i64 (U (k * 12 + 6)), .int .i64 (U (k * 12 + 7)), .int .i64 (U (k * 12 + 8)), .int .i64 (U (k * 12 + 9)), .int .i64 (U (k * 12 + 10)), .int .i64 (U (k * 12 + 11))] 41)).heap.size := by simp
       have x0 : (wr.alloc (Obj.cells #[.int .i64 (U (k * 12)), .int .i64 (U (k * 12 + 1)), .int .i64 (U (k * 12 + 2)), .int .i64 (U (k * 12 + 3)), .int .i64 (U (k * 12 + 4)), .int .i64 (U (k * 12 + 5)), .int .i64 (U (k * 12 + 6)), .int .i64 (U (k * 12 + 7)), .int .i64 (U (k * 12 + 8)), .int .i64 (U (k * 12 + 9)), .int .i64 (U (k * 12 + 10)), .int .i64 (U (k * 12 + 11))] 41)).cell? ⟨wr.heap.size, 0, none⟩ = some (.int .i64 (U (k * 12))) := by go_simp
       have x1 : (wr.alloc (Obj.cells #[.int .i64 (U (k * 12)), .int .i64 (U (k * 12 + 1)), .int .i64 (U (k * 12 + 2)), .int .i64 (U (k * 12 + 3)), .int .i64 (U (k * 12 + 4)), .int .i64 (U (k * 12 + 5)), .int .i64 (U (k * 12 + 6)), .int .i64 (U (k * 12 + 7)), .int .i64 (U (k * 12 + 8)), .int .i64 (U (k * 12 + 9)), .int .i64 (U (k * 12 + 10)), .int .i64 (U (k * 12 + 11))] 41)).cell? ⟨wr.heap.size, 1, none⟩ = some (.int .i64 (U (k * 12 + 1))) := by go_simp
       have x2 : (wr.alloc (Obj.cells #[.int .i64 (U (k * 12)), .int .i64 (U (k * 12 + 1)), .int .i64 (U (k * 12 + 2)), .int .i64 (U (k * 12 + 3)), .int .i64 (U (k * 12 + 4)), .int .i64 (U (k * 12 + 5)), .int .i64 (U (k * 12 + 6)), .int .i64 (U (k * 12 + 7)), .int .i64 (U (k * 12 + 8)), .int .i64 (U (k * 12 + 9)), .int .i64 (U (k * 12 + 10)), .int .i64 (U (k * 12 + 11))] 41)).cell? ⟨wr.heap.size, 2, none⟩ = some (.int .i64 (U (k * 12 + 2))) := by go_simp
       have x3 : (wr.alloc (Obj.cells #[.int .i64 (U (k * 12)), .int .i64 (U (k * 12 + 1)), .int .i64 (U (k * 12 + 2)), .int .i64 (U (k * 12 + 3)), .int .i64 (U (k * 12 + 4)), .int .i64 (U (k * 12 + 5)), .int .i64 (U (k * 12 + 6)), .int .i64 (U (k * 12 + 7)), .int .i64 (U (k * 12 + 8)), .int .i64 (U (k * 12 + 9)), .int .i64 (U (k * 12 + 10)), .int .i64 (U (k * 12 + 11))] 41)).cell? ⟨wr.heap.size, 3, none⟩ = some (.int .i64 (U (k * 12 + 3))) := by go_simp
       have x4 : (wr.alloc (Obj.cells #[.int .i64 (U (k * 12)), .int .i64 (U (k * 12 + 1)), .int .i64 (U (k * 12 + 2)), .int .i64 (U (k * 12 + 3)), .int .i64 (U (k * 12 + 4)), .int .i64 (U (k * 12 + 5)), .int .i64 (U (k * 12 + 6)), .int .i64 (U (k * 12 + 7)), .int .i64 (U (k * 12 + 8)), .int .i64 (U (k * 12 + 9)), .int .i64 (U (k * 12 + 10)), .int .i64 (U (k * 12 + 11))] 41)).cell? ⟨wr.heap.size, 4, none⟩ = some (.int .i64 (U (k * 12 + 4))) := by go_simp
       have x5 : (wr.alloc (Obj.cells #[.int .i64 (U (k * 12)), .int .i64 (U (k * 12 + 1)), .int .i64 (U (k * 12 + 2)), .int .i64 (U (k * 12 + 3)), .int .i64 (U (k * 12 + 4)), .int .i64 (U (k * 12 + 5)), .int .i64 (U (k * 12 + 6)), .int .i64 (U (k * 12 + 7)), .int .i64 (U (k * 12 + 8)), .int .i64 (U (k * 12 + 9)), .int .i64 (U (k * 12 + 10)), .int .i64 (U (k * 12 + 11))] 41)).cell? ⟨wr.heap.size, 5, none⟩ = some (.int .i64 (U (k * 12 + 5))) := by go_simp
       have x6 : (wr.alloc (Obj.cells #[.int .i64 (U (k * 12)), .int .i64 (U (k * 12 + 1)), .int .i64 (U (k * 12 + 2)), .int .i64 (U (k * 12 + 3)), .int .i64 (U (k * 12 + 4)), .int .i64 (U (k * 12 + 5)), .int .i64 (U (k * 12 + 6)), .int .i64 (U (k * 12 + 7)), .int .i64 (U (k * 12 + 8)), .int .i64 (U (k * 12 + 9)), .int .i64 (U (k * 12 + 10)), .int .i64 (U (k * 12 + 11))] 41)).cell? ⟨wr.heap.size, 6, none⟩ = some (.int .i64 (U (k * 12 + 6))) := by go_simp
       have x7 : (wr.alloc (Obj.cells #[.int .i64 (U (k * 12)), .int .i64 (U (k * 12 + 1)), .int .i64 (U (k * 12 + 2)), .int .i64 (U (k * 12 + 3)), .int .i64 (U (k * 12 + 4)), .int .i64 (U (k * 12 + 5)), .int .i64 (U (k * 12 + 6)), .int .i64 (U (k * 12 + 7)), .int .i64 (U (k * 12 + 8)), .int .i64 (U (k * 12 + 9)), .int .i64 (U (k * 12 + 10)), .int .i64 (U (k * 12 + 11))] 41)).cell? ⟨wr.heap.size, 7, none⟩ = some (.int .i64 (U (k * 12 + 7))) := by go_simp
       have x8 : (wr.alloc (Obj.cells #[.int .i64 (U (k * 12)), .int .i64 (U (k * 12 + 1)), .int .i64 (U (k * 12 + 2)), .int .i64 (U (k * 12 + 3)), .int .i64 (U (k * 12 + 4)), .int .i64 (U (k * 12 + 5)), .int .i64 (U (k * 12 + 6)), .int .i64 (U (k * 12 + 7)), .int .i64 (U (k * 12 + 8)), .int .i64 (U (k * 12 + 9)), .int .i64 (U (k * 12 + 10)), .int .i64 (U (k * 12 + 11))] 41)).cell? ⟨wr.heap.size, 8, none⟩ = some (.int .i64 (U (k * 12 + 8))) := by go_simp
       have x9 : (wr.alloc (Obj.cells #[.int .i64 (U (k * 12)), .int .i64 (U (k * 12 + 1)), .int .i64 (U (k * 12 + 2)), .int .i64 (U (k * 12 + 3)), .int .i64 (U (k * 12 + 4)), .int .i64 (U (k * 12 + 5)), .int .i64 (U (k * 12 + 6)), .int .i64 (U (k * 12 + 7)), .int .i64 (U (k * 12 + 8)), .int .i64 (U (k * 12 + 9)), .int .i64 (U (k * 12 + 10)), .int .i64 (U (k * 12 + 11))] 41)).cell? ⟨wr.heap.size, 9, none⟩ = some (.int .i64 (U (k * 12 + 9))) := by go_simp
       have x10 : (wr.alloc (Obj.cells #[.int .i64 (U (k * 12)), .int .i64 (U (k * 12 + 1)), .int .i64 (U (k * 12 + 2)), .int .i64 (U (k * 12 + 3)), .int .i64 (U (k * 12 + 4)), .int .i64 (U (k * 12 + 5)), .int .i64 (U (k * 12 + 6)), .int .i64 (U (k * 12 + 7)), .int .i64 (U (k * 12 + 8)), .int .i64 (U (k * 12 + 9)), .int .i64 (U (k * 12 + 10)), .int .i64 (U (k * 12 + 11))] 41)).cell? ⟨wr.heap.size, 10, none⟩ = some (.int .i64 (U (k * 12 + 10))) := by go_simp
       have x11 : (wr.alloc (Obj.cells #[.int .i64 (U (k * 12)), .int .i64 (U (k * 12 + 1)), .int .i64 (U (k * 12 + 2)), .int .i64 (U (k * 12 + 3)), .int .i64 (U (k * 12 + 4)), .int .i64 (U (k * 12 + 5)), .int .i64 (U (k * 12 + 6)), .int .i64 (U (k * 12 + 7)), .int .i64 (U (k * 12 + 8)), .int .i64 (U (k * 12 + 9)), .int .i64 (U (k * 12 + 10)), .int .i64 (U (k * 12 + 11))] 41)).cell? ⟨wr.heap.size, 11, none⟩ = some (.int .i64 (U (k * 12 + 11))) := by go_simp
       have xf : ∀ o, (wr.alloc (Obj.cells #[.int .i64 (U (k * 12)), .int .i64 (U (k * 12 + 1)), .int .i64 (U (k * 12 + 2)), .int .i64 (U (k * 12 + 3)), .int .i64 (U (k * 12 + 4)), .int .i64 (U (k * 12 + 5)), .int .i64 (U (k * 12 + 6)), .int .i64 (U (k * 12 + 7)), .int .i64 (U (k * 12 + 8)), .int .i64 (U (k * 12 + 9)), .int .i64 (U (k * 12 + 10)), .int .i64 (U (k * 12 + 11))] 41)).frozen? ⟨wr.heap.size, o, none⟩ = false := fun o => by go_simp
       go_upto_region 6 with fail
       generalize (wr.alloc (Obj.cells #[.int .i64 (U (k * 12)), .int .i64 (U (k * 12 + 1)), .int .i64 (U (k * 12 + 2)), .int .i64 (U (k * 12 + 3)), .int .i64 (U (k * 12 + 4)), .int .i64 (U (k * 12 + 5)), .int .i64 (U (k * 12 + 6)), .int .i64 (U (k * 12 + 7)), .int .i64 (U (k * 12 + 8)), .int .i64 (U (k * 12 + 9)), .int .i64 (U (k * 12 + 10)), .int .i64 (U (k * 12 + 11))] 41)) = wx at hE hO2 hz2 x0 x1 x2 x3 x4 x5 x6 x7 x8 x9 x10 x11 xf ⊢
       have hne : ¬ wr.heap.size = g := by omega
       have hne' : ¬ g = wr.heap.size := by omega
       have hbw := hO.bel.size
       generalize wr.heap.size = bp at hz2 x0 x1 x2 x3 x4 x5 x6 x7 x8 x9 x10 x11 xf hne hne' hE hg2 hbw ⊢
       clear hO df d0 d1 d2 d3 d4 d5 d6 d7 d8 d9 d10 d11 hE
       go_upto_region 7 with (go_at_call 160; refine (l6Sleeps_k (fun j => U (k * 12 + j)) _ false hSL).mono ?_; rintro e w5 ⟨rfl, hb5⟩)
       have hO5 := hO2.on hb5
       obtain ⟨hc5, hf5⟩ := bcell hb5
       have z0 := (hc5 bp 0 hz2).trans x0
       have z1 := (hc5 bp 1 hz2).trans x1
       have z2 := (hc5 bp 2 hz2).trans x2
       have z3 := (hc5 bp 3 hz2).trans x3
       have z4 := (hc5 bp 4 hz2).trans x4
       have z5 := (hc5 bp 5 hz2).trans x5
       have z6 := (hc5 bp 6 hz2).trans x6
       have z7 := (hc5 bp 7 hz2).trans x7
       have z8 := (hc5 bp 8 hz2).trans x8
       have z9 := (hc5 bp 9 hz2).trans x9
       have z10 := (hc5 bp 10 hz2).trans x10
       have z11 := (hc5 bp 11 hz2).trans x11
       have zf := fun o => (hf5 bp o hz2).trans (xf o)
       have hz5 : bp < w5.heap.size := Nat.lt_of_lt_of_le hz2 hb5.size
       clear hc5 hf5 x0 x1 x2 x3 x4 x5 x6 x7 x8 x9 x10 x11 xf hb5 hO2
       go_upto_region 8 with (go_at_call 109; refine (l6Within_any _ _ _ (by omega) (by omega)).mono ?_; rintro e w6 ⟨rfl, h6⟩; have h6' := h6.symm; subst h6'; clear h6)
       (try rw [hy])
       have hs7 : Fr (fun b => b = bp) w5 (w5.setCell ⟨bp, 7, none⟩ (.int .i64 y)) := Fr.setCell (X := fun b => b = bp) rfl _
       have hO7 : OutL w (w5.setCell ⟨bp, 7, none⟩ (.int .i64 y)) 41 12 (some ⟨g, 0, none⟩) n c1 (mapR (fun _ V => pullV gg V) U k) := ⟨hO5.bel.setCell (by omega) _, hO5.own.frame hs7 (fun b e x => by simp [Value.ownBlock] at e; omega)⟩
       have uf := hO7.own.fro
       have u0 := hO7.own.cellq (q := k * 12) (by omega)
       have u1 := hO7.own.cellq (q := k * 12 + 1) (by omega)
       have u2 := hO7.own.cellq (q := k * 12 + 2) (by omega)
       have u3 := hO7.own.cellq (q := k * 12 + 3) (by omega)
       have u4 := hO7.own.cellq (q := k * 12 + 4) (by omega)
       have u5 := hO7.own.cellq (q := k * 12 + 5) (by omega)
       have u6 := hO7.own.cellq (q := k * 12 + 6) (by omega)
       have u7 := hO7.own.cellq (q := k * 12 + 7) (by omega)
       have u8 := hO7.own.cellq (q := k * 12 + 8) (by omega)
       have u9 := hO7.own.cellq (q := k * 12 + 9) (by omega)
       have u10 := hO7.own.cellq (q := k * 12 + 10) (by omega)
       have u11 := hO7.own.cellq (q := k * 12 + 11) (by omega)
       have t0 : (w5.setCell ⟨bp, 7, none⟩ (.int .i64 y)).cell? ⟨bp, 0, none⟩ = some (.int .i64 (U (k * 12))) := by go_simp
       have t1 : (w5.setCell ⟨bp, 7, none⟩ (.int .i64 y)).cell? ⟨bp, 1, none⟩ = some (.int .i64 (U (k * 12 + 1))) := by go_simp
       have t2 : (w5.setCell ⟨bp, 7, none⟩ (.int .i64 y)).cell? ⟨bp, 2, none⟩ = some (.int .i64 (U (k * 12 + 2))) := by go_simp
       have t3 : (w5.setCell ⟨bp, 7, none⟩ (.int .i64 y)).cell? ⟨bp, 3, none⟩ = some (.int .i64 (U (k * 12 + 3))) := by go_simp
       have t4 : (w5.setCell ⟨bp, 7, none⟩ (.int .i64 y)).cell? ⟨bp, 4, none⟩ = some (.int .i64 (U (k * 12 + 4))) := by go_simp
       have t5 : (w5.setCell ⟨bp, 7, none⟩ (.int .i64 y)).cell? ⟨bp, 5, none⟩ = some (.int .i64 (U (k * 12 + 5))) := by go_simp
       have t6 : (w5.setCell ⟨bp, 7, none⟩ (.int .i64 y)).cell? ⟨bp, 6, none⟩ = some (.int .i64 (U (k * 12 + 6))) := by go_simp
       have t7 : (w5.setCell ⟨bp, 7, none⟩ (.int .i64 y)).cell? ⟨bp, 7, none⟩ = some (.int .i64 (y)) := by go_simp
       have t8 : (w5.setCell ⟨bp, 7, none⟩ (.int .i64 y)).cell? ⟨bp, 8, none⟩ = some (.int .i64 (U (k * 12 + 8))) := by go_simp
       have t9 : (w5.setCell ⟨bp, 7, none⟩ (.int .i64 y)).cell? ⟨bp, 9, none⟩ = some (.int .i64 (U (k * 12 + 9))) := by go_simp
       have t10 : (w5.setCell ⟨bp, 7, none⟩ (.int .i64 y)).cell? ⟨bp, 10, none⟩ = some (.int .i64 (U (k * 12 + 10))) := by go_simp
       have t11 : (w5.setCell ⟨bp, 7, none⟩ (.int .i64 y)).cell? ⟨bp, 11, none⟩ = some (.int .i64 (U (k * 12 + 11))) := by go_simp
       generalize (w5.setCell ⟨bp, 7, none⟩ (.int .i64 y)) = w7 at hO7 uf u0 t0 u1 t1 u2 t2 u3 t3 u4 t4 u5 t5 u6 t6 u7 t7 u8 t8 u9 t9 u10 t10 u11 t11 ⊢
       clear z0 z1 z2 z3 z4 z5 z6 z7 z8 z9 z10 z11 zf hO5
       go_wp2_with fail
       have hq := put12 hO7.own hlt (fun j => if j = 7 then y else U (k * 12 + j))
       rw [HS.out] at hq
       have hqb := (putFr (w4 := w7) (g := g) (p := k) (fun j => if j = 7 then y else U (k * 12 + j))).below (B := w.heap.size) hO7.bel.size (fun b e => by omega)
       go_roundw
       case rel => exact ⟨k + 1, by omega, by go_num, hO7.bel.trans hqb, hq⟩
       case measure => simp [intOf]; omega
    · have HNO : Shut (mapR (fun _ V => pullV gg V) U (k + 1) = mapR (fun _ V => pullV gg V) U k) := mapR_same (fun j hj => by show pullV gg (fun j => U (k * 12 + j)) j = _; unfold pullV; rw [live_m (V := (fun j => U (k * 12 + j))) hm]; rfl)
      have hE : Below wr.heap.size wr (wr.alloc (Obj.cells #[.int .i64 (U (k * 12)), .int .i64 (U (k * 12 + 1)), .int .i64 (U (k * 12 + 2)), .int .i64 (U (k * 12 + 3)), .int .i64 (U (k * 12 + 4)), .int .i64 (U (k * 12 + 5)), .int .i64 (U (k * 12 + 6)), .int .i64 (U (k * 12 + 7)), .int .i64 (U (k * 12 + 8)), .int .i64 (U (k * 12 + 9)), .int .i64 (U (k * 12 + 10)), .int .i64 (U (k * 12 + 11))] 41)) := (Below.refl _ _).alloc (Nat.le_refl _) _
      go_wp2_with fail
      go_roundw
      case rel => exact ⟨k + 1, by omega, by go_num, by rw [HNO.out]; exact hO.on hE⟩
      case measure => simp [intOf]; omega
  · obtain rfl : k = n := by omega
    go_wp2_with fail
    go_ret
    exact ⟨_, _, rfl, hO⟩
theorem sp_bd {V : Nat → Int} (b6 : -20000000 ≤ V 6 ∧ V 6 ≤ 20000000) (b7 : -20000000 ≤ V 7 ∧ V 7 ≤ 20000000) : (-20000000 ≤ spX V ∧ spX V ≤ 20000000) ∧ (-20000000 ≤ spY V ∧ spY V ≤ 20000000) := by
 have t6 := tdiv_bd (x := V 6) (B := 20000000) (V 8) (by omega)
 have t7 := tdiv_bd (x := V 7) (B := 20000000) (V 8) (by omega)
 unfold spX spY
 by_cases m : V 8 = 0
 · rw [if_pos m, if_pos m]; omega
 · rw [if_neg m, if_neg m]; omega
def goV (V : Nat → Int) : Nat → Int := bif liveV V then moveV V (spX V) (spY V) else V
theorem own12m {w : World} {base t g n c k : Nat} {f : Nat → (Nat → Int) → Nat → Int} {U : Nat → Int} (h : OwnL w base t 12 (.slice (some ⟨g, 0, none⟩) n c) n (mapR f U k)) (hk : k < n) :
 w.cell? ⟨g, k * 12, none⟩ = some (.int .i64 (U (k * 12))) ∧ w.cell? ⟨g, k * 12 + 1, none⟩ = some (.int .i64 (U (k * 12 + 1))) ∧ w.cell? ⟨g, k * 12 + 2, none⟩ = some (.int .i64 (U (k * 12 + 2))) ∧ w.cell? ⟨g, k * 12 + 3, none⟩ = some (.int .i64 (U (k * 12 + 3))) ∧ w.cell? ⟨g, k * 12 + 4, none⟩ = some (.int .i64 (U (k * 12 + 4))) ∧ w.cell? ⟨g, k * 12 + 5, none⟩ = some (.int .i64 (U (k * 12 + 5))) ∧ w.cell? ⟨g, k * 12 + 6, none⟩ = some (.int .i64 (U (k * 12 + 6))) ∧ w.cell? ⟨g, k * 12 + 7, none⟩ = some (.int .i64 (U (k * 12 + 7))) ∧ w.cell? ⟨g, k * 12 + 8, none⟩ = some (.int .i64 (U (k * 12 + 8))) ∧ w.cell? ⟨g, k * 12 + 9, none⟩ = some (.int .i64 (U (k * 12 + 9))) ∧ w.cell? ⟨g, k * 12 + 10, none⟩ = some (.int .i64 (U (k * 12 + 10))) ∧ w.cell? ⟨g, k * 12 + 11, none⟩ = some (.int .i64 (U (k * 12 + 11))) :=
 have q : ∀ j, j < 12 → w.cell? ⟨g, k * 12 + j, none⟩ = some (.int .i64 (U (k * 12 + j))) := fun j hj => by
  have q := h.cellq (q := k * 12 + j) (by omega)
  rw [mapR_row] at q
  exact q
 ⟨q 0 (by decide), q 1 (by decide), q 2 (by decide), q 3 (by decide), q 4 (by decide), q 5 (by decide), q 6 (by decide), q 7 (by decide), q 8 (by decide), q 9 (by decide), q 10 (by decide), q 11 (by decide)⟩
theorem l9Moves_any (a : Option Addr) (n c : Nat) (U : Nat → Int) (w : World) (h : Flat w a (n * 12) U) (hn : n ≤ 1048576) (hbb : Bods n U) :
 Calls Tryz.prog 147 #[.slice a n c] w fun e w' => ∃ a1 c1, e = .returned (.slice a1 n c1) ∧ OutL w w' 41 12 a1 n c1 (mapR (fun _ V => goV V) U n) := by
 have hset := cset_map
 go_enter Tryz.func147, Tryz.ntmps147
 go_upto_region 1 with fail
 go_cut [3] (fun s0 wc => ∃ a1 c1, s0 = .slice a1 n c1 ∧ OutL w wc 41 12 a1 n c1 U)
 case first =>
  go_wp2_with (go_at_call 72; refine (l8Copy_any a n c U _ h hn).mono ?_; rintro e w3 ⟨a1, c1, rfl, hO⟩)
  go_meet
  exact ⟨_, _, rfl, hO⟩
 case rest =>
 obtain ⟨a1, c1, rfl, hO⟩ := hcut
 go_upto_region 3 with fail
 go_loopw [4] (fun s wr => ∃ k : Nat, k ≤ n ∧ s = .int .i64 (k : Int) ∧ OutL w wr 41 12 a1 n c1 (mapR (fun _ V => goV V) U k)) (fun s _ => n - (intOf s).toNat)
 case atStart => exact ⟨0, Nat.zero_le _, rfl, by rw [mapR_0]; exact hO⟩
 case round =>
  clear hO
  obtain ⟨k, hk, rfl, hO⟩ := hrel
  by_cases hlt : k < n
  · have hkn : (k : Int) < (n : Int) := by omega
    obtain ⟨g, rfl, hg1, hg2⟩ := hO.own.loc (by omega)
    have d0 : wr.cell? ⟨g, k * 12, none⟩ = some (.int .i64 (U (k * 12))) := by have q := hO.own.cellq (q := k * 12 + 0) (by omega); rw [mapR_row] at q; exact q
    have d1 : wr.cell? ⟨g, k * 12 + 1, none⟩ = some (.int .i64 (U (k * 12 + 1))) := by have q := hO.own.cellq (q := k * 12 + 1) (by omega); rw [mapR_row] at q; exact q
    have d2 : wr.cell? ⟨g, k * 12 + 2, none⟩ = some (.int .i64 (U (k * 12 + 2))) := by have q := hO.own.cellq (q := k * 12 + 2) (by omega); rw [mapR_row] at q; exact q
    have d3 : wr.cell? ⟨g, k * 12 + 3, none⟩ = some (.int .i64 (U (k * 12 + 3))) := by have q := hO.own.cellq (q := k * 12 + 3) (by omega); rw [mapR_row] at q; exact q
    have d4 : wr.cell? ⟨g, k * 12 + 4, none⟩ = some (.int .i64 (U (k * 12 + 4))) := by have q := hO.own.cellq (q := k * 12 + 4) (by omega); rw [mapR_row] at q; exact q
    have d5 : wr.cell? ⟨g, k * 12 + 5, none⟩ = some (.int .i64 (U (k * 12 + 5))) := by have q := hO.own.cellq (q := k * 12 + 5) (by omega); rw [mapR_row] at q; exact q
    have d6 : wr.cell? ⟨g, k * 12 + 6, none⟩ = some (.int .i64 (U (k * 12 + 6))) := by have q := hO.own.cellq (q := k * 12 + 6) (by omega); rw [mapR_row] at q; exact q
    have d7 : wr.cell? ⟨g, k * 12 + 7, none⟩ = some (.int .i64 (U (k * 12 + 7))) := by have q := hO.own.cellq (q := k * 12 + 7) (by omega); rw [mapR_row] at q; exact q
    have d8 : wr.cell? ⟨g, k * 12 + 8, none⟩ = some (.int .i64 (U (k * 12 + 8))) := by have q := hO.own.cellq (q := k * 12 + 8) (by omega); rw [mapR_row] at q; exact q
    have d9 : wr.cell? ⟨g, k * 12 + 9, none⟩ = some (.int .i64 (U (k * 12 + 9))) := by have q := hO.own.cellq (q := k * 12 + 9) (by omega); rw [mapR_row] at q; exact q
    have d10 : wr.cell? ⟨g, k * 12 + 10, none⟩ = some (.int .i64 (U (k * 12 + 10))) := by have q := hO.own.cellq (q := k * 12 + 10) (by omega); rw [mapR_row] at q; exact q
    have d11 : wr.cell? ⟨g, k * 12 + 11, none⟩ = some (.int .i64 (U (k * 12 + 11))) := by have q := hO.own.cellq (q := k * 12 + 11) (by omega); rw [mapR_row] at q; exact q
    have df := hO.own.fro
    obtain ⟨_, _, bd4, bd5, bd6, bd7, _⟩ := bodyB_bd (hbb.ok k hlt)
    obtain ⟨sbx, sby⟩ := sp_bd (V := (fun j => U (k * 12 + j))) bd6 bd7
    obtain ⟨SL, hSL⟩ : ∃ b, decide (8 ≤ (fun j => U (k * 12 + j)) 11) = b := ⟨_, rfl⟩
    by_cases hm : 0 < U (k * 12 + 8)
    · cases SL with
      | true =>
       have HNO : Shut (mapR (fun _ V => goV V) U (k + 1) = mapR (fun _ V => goV V) U k) := mapR_same (fun j hj => by show goV (fun j => U (k * 12 + j)) j = _; unfold goV; rw [live_s hSL]; rfl)
       go_wp2_with (go_at_call 160; refine (l6Sleeps_k (fun j => U (k * 12 + j)) _ true hSL).mono ?_; rintro e w4 ⟨rfl, hb4⟩)
       go_roundw
       case rel => exact ⟨k + 1, by omega, by go_num, by rw [HNO.out]; exact hO.on hb4⟩
       case measure => simp [intOf]; omega
      | false =>
       have HS : Shut (putRow (mapR (fun _ V => goV V) U k) k (moveV (fun j => U (k * 12 + j)) (spX (fun j => U (k * 12 + j))) (spY (fun j => U (k * 12 + j)))) = mapR (fun _ V => goV V) U (k + 1)) := by
        show _ = _
        rw [← mapR_set]
        congr 1
        show _ = goV (fun j => U (k * 12 + j))
        unfold goV
        rw [live_t (V := (fun j => U (k * 12 + j))) hm hSL]
        rfl
       go_upto_region 6 with (go_at_call 160; refine (l6Sleeps_k (fun j => U (k * 12 + j)) _ false hSL).mono ?_; rintro e w4 ⟨rfl, hb4⟩)
       have hO4 := hO.on hb4
       clear hO df d0 d1 d2 d3 d4 d5 d6 d7 d8 d9 d10 d11
       have hO := hO4
       clear hO4 hb4
       have d0 : w4.cell? ⟨g, k * 12, none⟩ = some (.int .i64 (U (k * 12))) := by have q := hO.own.cellq (q := k * 12 + 0) (by omega); rw [mapR_row] at q; exact q
       have d1 : w4.cell? ⟨g, k * 12 + 1, none⟩ = some (.int .i64 (U (k * 12 + 1))) := by have q := hO.own.cellq (q := k * 12 + 1) (by omega); rw [mapR_row] at q; exact q
       have d2 : w4.cell? ⟨g, k * 12 + 2, none⟩ = some (.int .i64 (U (k * 12 + 2))) := by have q := hO.own.cellq (q := k * 12 + 2) (by omega); rw [mapR_row] at q; exact q
       have d3 : w4.cell? ⟨g, k * 12 + 3, none⟩ = some (.int .i64 (U (k * 12 + 3))) := by have q := hO.own.cellq (q := k * 12 + 3) (by omega); rw [mapR_row] at q; exact q
       have d4 : w4.cell? ⟨g, k * 12 + 4, none⟩ = some (.int .i64 (U (k * 12 + 4))) := by have q := hO.own.cellq (q := k * 12 + 4) (by omega); rw [mapR_row] at q; exact q
       have d5 : w4.cell? ⟨g, k * 12 + 5, none⟩ = some (.int .i64 (U (k * 12 + 5))) := by have q := hO.own.cellq (q := k * 12 + 5) (by omega); rw [mapR_row] at q; exact q
       have d6 : w4.cell? ⟨g, k * 12 + 6, none⟩ = some (.int .i64 (U (k * 12 + 6))) := by have q := hO.own.cellq (q := k * 12 + 6) (by omega); rw [mapR_row] at q; exact q
       have d7 : w4.cell? ⟨g, k * 12 + 7, none⟩ = some (.int .i64 (U (k * 12 + 7))) := by have q := hO.own.cellq (q := k * 12 + 7) (by omega); rw [mapR_row] at q; exact q
       have d8 : w4.cell? ⟨g, k * 12 + 8, none⟩ = some (.int .i64 (U (k * 12 + 8))) := by have q := hO.own.cellq (q := k * 12 + 8) (by omega); rw [mapR_row] at q; exact q
       have d9 : w4.cell? ⟨g, k * 12 + 9, none⟩ = some (.int .i64 (U (k * 12 + 9))) := by have q := hO.own.cellq (q := k * 12 + 9) (by omega); rw [mapR_row] at q; exact q
       have d10 : w4.cell? ⟨g, k * 12 + 10, none⟩ = some (.int .i64 (U (k * 12 + 10))) := by have q := hO.own.cellq (q := k * 12 + 10) (by omega); rw [mapR_row] at q; exact q
       have d11 : w4.cell? ⟨g, k * 12 + 11, none⟩ = some (.int .i64 (U (k * 12 + 11))) := by have q := hO.own.cellq (q := k * 12 + 11) (by omega); rw [mapR_row] at q; exact q
       refine wp_region_held_drew (S := fun w' => (1 : Nat) ≤ 2) (by kernel_rfl) ?_ (fun hHeld => ?_)
       · (try dsimp only)
         (first | (go_simp; done) | (go_keep; done))
       refine tq 0 hHeld ?_
       refine tq 1 hHeld ?_
       refine tq 2 hHeld ?_
       refine tq 3 hHeld ?_
       refine tq 4 hHeld ?_
       refine tq 6 hHeld ?_
       refine tq 7 hHeld ?_
       refine tq 8 hHeld ?_
       refine wpAnyH_ready (rs := [5, 9]) (by kernel_rfl) (by simp) ?_
       refine AllReadyH.cons rfl (fun K hK => ?_) (AllReadyH.cons rfl (fun K hK => ?_) AllReadyH.nil)
       · (go_simp; refine tr hK (fun hHeld => ?_); clear hK K)
         refine tc 9 fun K hK => ?_
         (go_simp; refine tr hK (fun hHeld => ?_); clear hK K)
         refine tc 10 fun K hK => ?_
         (go_simp; (go_at_call 164; refine (l6Speed_any (fun j => U (k * 12 + j)) _ bd6 bd7).mono ?_; rintro e w5 ⟨rfl, hb5⟩; have hO5 := hO.on hb5.ofDr; have uf5 := hO5.own.fro; obtain ⟨u5_0, u5_1, u5_2, u5_3, u5_4, u5_5, u5_6, u5_7, u5_8, u5_9, u5_10, u5_11⟩ := own12m hO5.own (by omega)); (try go_wp2_with fail); refine tr hK (fun hHeld => ?_); clear hK K)
         refine tc 11 fun K hK => ?_
         (go_simp; (go_at_call 163; refine (l6Move_any (fun j => U (k * 12 + j)) (spX (fun j => U (k * 12 + j))) (spY (fun j => U (k * 12 + j))) _ bd4 bd5 sbx sby).mono ?_; rintro e w6 ⟨rfl, hb6⟩; have hO6 := hO5.on hb6; have uf6 := hO6.own.fro; obtain ⟨u6_0, u6_1, u6_2, u6_3, u6_4, u6_5, u6_6, u6_7, u6_8, u6_9, u6_10, u6_11⟩ := own12m hO6.own (by omega)); (try go_wp2_with fail); refine tr hK (fun hHeld => ?_); clear hK K)
         refine tq 12 hHeld ?_
         refine tc 13 fun K hK => ?_
         (go_simp; refine tr hK (fun hHeld => ?_); clear hK K)
         refine wpAnyH_done (by kernel_rfl) ?_ _
         go_wp2_with fail
         have hq := put12 hO6.own hlt (moveV (fun j => U (k * 12 + j)) (spX (fun j => U (k * 12 + j))) (spY (fun j => U (k * 12 + j))))
         rw [HS.out] at hq
         have hqb := (putFr (w4 := w6) (g := g) (p := k) (moveV (fun j => U (k * 12 + j)) (spX (fun j => U (k * 12 + j))) (spY (fun j => U (k * 12 + j))))).below (B := w.heap.size) hO6.bel.size (fun b e => by omega)
         go_roundw
         case rel => exact ⟨k + 1, by omega, by go_num, hO6.bel.trans hqb, hq⟩
         case measure => simp [intOf]; omega
       · (go_simp; refine tr hK (fun hHeld => ?_); clear hK K)
         refine wpAnyH_ready (rs := [5, 10]) (by kernel_rfl) (by simp) ?_
         refine AllReadyH.cons rfl (fun K hK => ?_) (AllReadyH.cons rfl (fun K hK => ?_) AllReadyH.nil)
         · (go_simp; refine tr hK (fun hHeld => ?_); clear hK K)
           refine tc 10 fun K hK => ?_
           (go_simp; (go_at_call 164; refine (l6Speed_any (fun j => U (k * 12 + j)) _ bd6 bd7).mono ?_; rintro e w5 ⟨rfl, hb5⟩; have hO5 := hO.on hb5.ofDr; have uf5 := hO5.own.fro; obtain ⟨u5_0, u5_1, u5_2, u5_3, u5_4, u5_5, u5_6, u5_7, u5_8, u5_9, u5_10, u5_11⟩ := own12m hO5.own (by omega)); (try go_wp2_with fail); refine tr hK (fun hHeld => ?_); clear hK K)
           refine tc 11 fun K hK => ?_
           (go_simp; (go_at_call 163; refine (l6Move_any (fun j => U (k * 12 + j)) (spX (fun j => U (k * 12 + j))) (spY (fun j => U (k * 12 + j))) _ bd4 bd5 sbx sby).mono ?_; rintro e w6 ⟨rfl, hb6⟩; have hO6 := hO5.on hb6; have uf6 := hO6.own.fro; obtain ⟨u6_0, u6_1, u6_2, u6_3, u6_4, u6_5, u6_6, u6_7, u6_8, u6_9, u6_10, u6_11⟩ := own12m hO6.own (by omega)); (try go_wp2_with fail); refine tr hK (fun hHeld => ?_); clear hK K)
           refine tq 12 hHeld ?_
           refine tc 13 fun K hK => ?_
           (go_simp; refine tr hK (fun hHeld => ?_); clear hK K)
           refine wpAnyH_done (by kernel_rfl) ?_ _
           go_wp2_with fail
           have hq := put12 hO6.own hlt (moveV (fun j => U (k * 12 + j)) (spX (fun j => U (k * 12 + j))) (spY (fun j => U (k * 12 + j))))
           rw [HS.out] at hq
           have hqb := (putFr (w4 := w6) (g := g) (p := k) (moveV (fun j => U (k * 12 + j)) (spX (fun j => U (k * 12 + j))) (spY (fun j => U (k * 12 + j))))).below (B := w.heap.size) hO6.bel.size (fun b e => by omega)
           go_roundw
           case rel => exact ⟨k + 1, by omega, by go_num, hO6.bel.trans hqb, hq⟩
           case measure => simp [intOf]; omega
         · (go_simp; (go_at_call 164; refine (l6Speed_any (fun j => U (k * 12 + j)) _ bd6 bd7).mono ?_; rintro e w5 ⟨rfl, hb5⟩; have hO5 := hO.on hb5.ofDr; have uf5 := hO5.own.fro; obtain ⟨u5_0, u5_1, u5_2, u5_3, u5_4, u5_5, u5_6, u5_7, u5_8, u5_9, u5_10, u5_11⟩ := own12m hO5.own (by omega)); (try go_wp2_with fail); refine tr hK (fun hHeld => ?_); clear hK K)
           refine tc 5 fun K hK => ?_
           (go_simp; refine tr hK (fun hHeld => ?_); clear hK K)
           refine tc 11 fun K hK => ?_
           (go_simp; (go_at_call 163; refine (l6Move_any (fun j => U (k * 12 + j)) (spX (fun j => U (k * 12 + j))) (spY (fun j => U (k * 12 + j))) _ bd4 bd5 sbx sby).mono ?_; rintro e w6 ⟨rfl, hb6⟩; have hO6 := hO5.on hb6; have uf6 := hO6.own.fro; obtain ⟨u6_0, u6_1, u6_2, u6_3, u6_4, u6_5, u6_6, u6_7, u6_8, u6_9, u6_10, u6_11⟩ := own12m hO6.own (by omega)); (try go_wp2_with fail); refine tr hK (fun hHeld => ?_); clear hK K)
           refine tq 12 hHeld ?_
           refine tc 13 fun K hK => ?_
           (go_simp; refine tr hK (fun hHeld => ?_); clear hK K)
           refine wpAnyH_done (by kernel_rfl) ?_ _
           go_wp2_with fail
           have hq := put12 hO6.own hlt (moveV (fun j => U (k * 12 + j)) (spX (fun j => U (k * 12 + j))) (spY (fun j => U (k * 12 + j))))
           rw [HS.out] at hq
           have hqb := (putFr (w4 := w6) (g := g) (p := k) (moveV (fun j => U (k * 12 + j)) (spX (fun j => U (k * 12 + j))) (spY (fun j => U (k * 12 + j))))).below (B := w.heap.size) hO6.bel.size (fun b e => by omega)
           go_roundw
           case rel => exact ⟨k + 1, by omega, by go_num, hO6.bel.trans hqb, hq⟩
           case measure => simp [intOf]; omega
    · have HNO : Shut (mapR (fun _ V => goV V) U (k + 1) = mapR (fun _ V => goV V) U k) := mapR_same (fun j hj => by show goV (fun j => U (k * 12 + j)) j = _; unfold goV; rw [live_m (V := (fun j => U (k * 12 + j))) hm]; rfl)
      go_wp2_with fail
      go_roundw
      case rel => exact ⟨k + 1, by omega, by go_num, by rw [HNO.out]; exact hO⟩
      case measure => simp [intOf]; omega
  · obtain rfl : k = n := by omega
    go_wp2_with fail
    go_ret
    exact ⟨_, _, rfl, hO⟩
end Go.Proofs.YthijeiehcdoidaaGreat
