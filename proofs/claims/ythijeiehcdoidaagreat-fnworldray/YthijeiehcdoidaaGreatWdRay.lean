/- Texts of a proof. -/
import Derived.Test.YthijeiehcdoidaaGreatB6
import Derived.Test.YthijeiehcdoidaaGreatWdSp
import Derived.Test.YthijeiehcdoidaaGreatRayRS
import Derived.Test.YthijeiehcdoidaaGreatRayRF
import Derived.Deep.RegionHeld3
import Derived.Deep.DeepCutAuto
set_option maxHeartbeats 16000000
set_option maxRecDepth 20000
namespace Go.Proofs.YthijeiehcdoidaaGreat
open Go.RowKit
set_option linter.unusedVariables false
set_option linter.unusedSimpArgs false
def rsAt (x y u v : Int) (U : Nat → Int) (k : Nat) : Int × Bool := rsP x y u v (U (k * 12 + 1)) (U (k * 12 + 2)) (U (k * 12 + 3)) (U (k * 12 + 4)) (U (k * 12 + 5))
def rayN (x y u v : Int) (U : Nat → Int) : Nat → Int × Int
 | 0 => (-1, 0)
 | k + 1 => if (rsAt x y u v U k).2 = true ∧ ((rayN x y u v U k).1 < 0 ∨ (rsAt x y u v U k).1 < (rayN x y u v U k).2) then (U (k * 12), (rsAt x y u v U k).1) else rayN x y u v U k
theorem rayN_yes {x y u v F i l : Int} {KB : Bool} {U : Nat → Int} {k : Nat} (e : rsAt x y u v U k = (F, KB)) (h : rayN x y u v U k = (i, l)) (q : KB = true ∧ (i < 0 ∨ F < l)) : rayN x y u v U (k + 1) = (U (k * 12), F) := by
 rw [rayN, e, h, if_pos q]
theorem rayN_no {x y u v F i l : Int} {KB : Bool} {U : Nat → Int} {k : Nat} (e : rsAt x y u v U k = (F, KB)) (h : rayN x y u v U k = (i, l)) (q : ¬ (KB = true ∧ (i < 0 ∨ F < l))) : rayN x y u v U (k + 1) = (i, l) := by
 rw [rayN, e, h, if_neg q]
theorem rayN_bad {x y u v : Int} {U : Nat → Int} (h : rayB x y u v = false) : ∀ k, rayN x y u v U k = (-1, 0)
 | 0 => rfl
 | k + 1 => by
  have e : (rsAt x y u v U k).2 = false := by
   obtain ⟨F, KB, e⟩ : ∃ F KB, rsAt x y u v U k = (F, KB) := ⟨_, _, rfl⟩
   have := (rsP_n (e := e) (by rw [h]; rfl)).2
   rw [e]; exact this
  rw [rayN, if_neg (by rw [e]; simp), rayN_bad h k]
def rayA (T P : Int) (n : Nat) (U : Nat → Int) (m : Nat) (Q : Nat → Int) (x y u v : Int) : Int × Int := bif worldB T P n U m Q then rayN x y u v U n else (-1, 0)
structure RyR (w : World) (T P : Int) (a : Option Addr) (n c : Nat) (a' : Option Addr) (m c' : Nat) (x y u v : Int) (wr : World) : Prop where
 wd : WdR w T P a n c a' m c' wr
 big : w.heap.size + 1 < wr.heap.size
 r0 : wr.cell? ⟨w.heap.size + 1, 0, none⟩ = some (.int .i64 x)
 r1 : wr.cell? ⟨w.heap.size + 1, 1, none⟩ = some (.int .i64 y)
 r2 : wr.cell? ⟨w.heap.size + 1, 2, none⟩ = some (.int .i64 u)
 r3 : wr.cell? ⟨w.heap.size + 1, 3, none⟩ = some (.int .i64 v)
theorem RyR.on {w wr w' : World} {T P x y u v : Int} {a a' : Option Addr} {n c m c' : Nat} (h : RyR w T P a n c a' m c' x y u v wr) (hb : Below wr.heap.size wr w') : RyR w T P a n c a' m c' x y u v w' :=
 ⟨h.wd.on hb, Nat.lt_of_lt_of_le h.big hb.size, (hb.cell (p := ⟨w.heap.size + 1, 0, none⟩) h.big).trans h.r0, (hb.cell (p := ⟨w.heap.size + 1, 1, none⟩) h.big).trans h.r1, (hb.cell (p := ⟨w.heap.size + 1, 2, none⟩) h.big).trans h.r2, (hb.cell (p := ⟨w.heap.size + 1, 3, none⟩) h.big).trans h.r3⟩
theorem RyR.start (w : World) (T P x y u v : Int) (a a' : Option Addr) (n c m c' : Nat) : RyR w T P a n c a' m c' x y u v ((w.alloc (Obj.cells #[.int .i64 T, .int .i64 P, .slice a n c, .slice a' m c'] 26)).alloc (Obj.cells #[.int .i64 x, .int .i64 y, .int .i64 u, .int .i64 v] 30)) :=
 ⟨⟨((Below.refl _ _).alloc (Nat.le_refl _) _).alloc (by simp) _, by simp; omega, by go_simp, by go_simp, by go_simp, by go_simp⟩, by simp, by go_simp, by go_simp, by go_simp, by go_simp⟩
theorem worldRay_q (T P : Int) (a : Option Addr) (n c : Nat) (U : Nat → Int) (a' : Option Addr) (m c' : Nat) (Q : Nat → Int) (x y u v i0 l0 : Int) (w : World) (h : Flat w a (n * 12) U) (h' : Flat w a' (m * 2) Q) (hn : n ≤ 1048576) (hm : m ≤ 1048576) (eA : rayA T P n U m Q x y u v = (i0, l0)) :
 Calls Tryz.prog 6 #[worldW T P a n c a' m c', b4 x y u v] w fun e w' => e = .returned (.tuple #[.int .i64 i0, .int .i64 l0]) ∧ Below w.heap.size w w' := by
 have hset := cset_map
 have hS := RyR.start w T P x y u v a a' n c m c'
 cases hok : worldB T P n U m Q with
 | false =>
  unfold rayA at eA
  rw [hok] at eA
  simp only [cond_false, Prod.mk.injEq] at eA
  obtain ⟨rfl, rfl⟩ := eA
  go_enter Tryz.func6, Tryz.ntmps6
  go_wp2_with (go_at_call 14; refine (worldOk_q T P a n c U a' m c' Q _ (h.below hS.wd.bel) (h'.below hS.wd.bel) hn hm false hok).mono ?_; rintro e w1 ⟨rfl, hb1⟩)
  exact bodyPost_ret (v := .tuple #[.int .i64 (-1), .int .i64 0]) (by simp [results, Tryz.results6, go_sem, *]) rfl ⟨rfl, (hS.on hb1).wd.bel⟩
 | true =>
  unfold rayA at eA
  rw [hok] at eA
  simp only [cond_true] at eA
  have z2 := hS.wd.c2
  go_enter Tryz.func6, Tryz.ntmps6
  go_upto_region 4 with (go_at_call 14; refine (worldOk_q T P a n c U a' m c' Q _ (h.below hS.wd.bel) (h'.below hS.wd.bel) hn hm true hok).mono ?_; rintro e w1 ⟨rfl, hb1⟩)
  have hB1 := hS.on hb1
  clear hb1 hS z2
  have z2 := hB1.wd.c2
  go_wp2
  clear z2
  go_loopw [6, 7, 9, 10, 11, 20] (fun s6 s7 _ _ _ s wr => ∃ (k : Nat) (i l : Int), k ≤ n ∧ s = .int .i64 (k : Int) ∧ s6 = .int .i64 i ∧ s7 = .int .i64 l ∧ rayN x y u v U k = (i, l) ∧ RyR w T P a n c a' m c' x y u v wr) (fun _ _ _ _ _ s _ => n - (intOf s).toNat)
  case atStart => exact ⟨0, -1, 0, Nat.zero_le _, rfl, rfl, rfl, rfl, hB1⟩
  case round =>
   clear hB1
   obtain ⟨k, i, l, hk, rfl, rfl, rfl, hR, hB⟩ := hrel
   have hbig := hB.big
   by_cases hlt : k < n
   · obtain ⟨b, o, rfl, hbl, hc⟩ := (h.below hB.wd.bel) (by omega)
     have c0 := hc (k * 12) (by omega)
     have c1 := hc (k * 12 + 1) (by omega)
     have c2 := hc (k * 12 + 2) (by omega)
     have c3 := hc (k * 12 + 3) (by omega)
     have c4 := hc (k * 12 + 4) (by omega)
     have c5 := hc (k * 12 + 5) (by omega)
     have c6 := hc (k * 12 + 6) (by omega)
     have c7 := hc (k * 12 + 7) (by omega)
     have c8 := hc (k * 12 + 8) (by omega)
     have c9 := hc (k * 12 + 9) (by omega)
     have c10 := hc (k * 12 + 10) (by omega)
     have c11 := hc (k * 12 + 11) (by omega)
     simp only [← Nat.add_assoc] at c0 c1 c2 c3 c4 c5 c6 c7 c8 c9 c10 c11
     clear hc
     obtain ⟨F, KB, hF⟩ : ∃ F KB, rsAt x y u v U k = (F, KB) := ⟨_, _, rfl⟩
     have HR : Shut (rayN x y u v U k = (i, l)) := hR
     clear hR
     go_upto_region 7 with fail
     have hE : Below wr.heap.size wr (wr.alloc (Obj.cells #[.int .i64 (U (k * 12)), .int .i64 (U (k * 12 + 1)), .int .i64 (U (k * 12 + 2)), .int .i64 (U (k * 12 + 3)), .int .i64 (U (k * 12 + 4)), .int .i64 (U (k * 12 + 5)), .int .i64 (U (k * 12 + 6)), .int .i64 (U (k * 12 + 7)), .int .i64 (U (k * 12 + 8)), .int .i64 (U (k * 12 + 9)), .int .i64 (U (k * 12 + 10)), .int .i64 (U (k * 12 + 11))] 41)) := (Below.refl _ _).alloc (Nat.le_refl _) _
     have hB2 := hB.on hE
     have x0 : (wr.alloc (Obj.cells #[.int .i64 (U (k * 12)), .int .i64 (U (k * 12 + 1)), .int .i64 (U (k * 12 + 2)), .int .i64 (U (k * 12 + 3)), .int .i64 (U (k * 12 + 4)), .int .i64 (U (k * 12 + 5)), .int .i64 (U (k * 12 + 6)), .int .i64 (U (k * 12 + 7)), .int .i64 (U (k * 12 + 8)), .int .i64 (U (k * 12 + 9)), .int .i64 (U (k * 12 + 10)), .int .i64 (U (k * 12 + 11))] 41)).cell? ⟨wr.heap.size, 0, none⟩ = some (.int .i64 (U (k * 12))) := by go_simp
     have x1 : (wr.alloc (Obj.cells #[.int .i64 (U (k * 12)), .int .i64 (U (k * 12 + 1)), .int .i64 (U (k * 12 + 2)), .int .i64 (U (k * 12 + 3)), .int .i64 (U (k * 12 + 4)), .int .i64 (U (k * 12 + 5)), .int .i64 (U (k * 12 + 6)), .int .i64 (U (k * 12 + 7)), .int .i64 (U (k * 12 + 8)), .int .i64 (U (k * 12 + 9)), .int .i64 (U (k * 12 + 10)), .int .i64 (U (k * 12 + 11))] 41)).cell? ⟨wr.heap.size, 1, none⟩ = some (.int .i64 (U (k * 12 + 1))) := by go_simp
     have x2 : (wr.alloc (Obj.cells #[.int .i64 (U (k * 12)), .int .i64 (U (k * 12 + 1)), .int .i64 (U (k * 12 + 2)), .int .i64 (U (k * 12 + 3)), .int .i64 (U (k * 12 + 4)), .int .i64 (U (k * 12 + 5)), .int .i64 (U (k * 12 + 6)), .int .i64 (U (k * 12 + 7)), .int .i64 (U (k * 12 + 8)), .int .i64 (U (k * 12 + 9)), .int .i64 (U (k * 12 + 10)), .int .i64 (U (k * 12 + 11))] 41)).cell? ⟨wr.heap.size, 2, none⟩ = some (.int .i64 (U (k * 12 + 2))) := by go_simp
     have x3 : (wr.alloc (Obj.cells #[.int .i64 (U (k * 12)), .int .i64 (U (k * 12 + 1)), .int .i64 (U (k * 12 + 2)), .int .i64 (U (k * 12 + 3)), .int .i64 (U (k * 12 + 4)), .int .i64 (U (k * 12 + 5)), .int .i64 (U (k * 12 + 6)), .int .i64 (U (k * 12 + 7)), .int .i64 (U (k * 12 + 8)), .int .i64 (U (k * 12 + 9)), .int .i64 (U (k * 12 + 10)), .int .i64 (U (k * 12 + 11))] 41)).cell? ⟨wr.heap.size, 3, none⟩ = some (.int .i64 (U (k * 12 + 3))) := by go_simp
     have x4 : (wr.alloc (Obj.cells #[.int .i64 (U (k * 12)), .int .i64 (U (k * 12 + 1)), .int .i64 (U (k * 12 + 2)), .int .i64 (U (k * 12 + 3)), .int .i64 (U (k * 12 + 4)), .int .i64 (U (k * 12 + 5)), .int .i64 (U (k * 12 + 6)), .int .i64 (U (k * 12 + 7)), .int .i64 (U (k * 12 + 8)), .int .i64 (U (k * 12 + 9)), .int .i64 (U (k * 12 + 10)), .int .i64 (U (k * 12 + 11))] 41)).cell? ⟨wr.heap.size, 4, none⟩ = some (.int .i64 (U (k * 12 + 4))) := by go_simp
     have x5 : (wr.alloc (Obj.cells #[.int .i64 (U (k * 12)), .int .i64 (U (k * 12 + 1)), .int .i64 (U (k * 12 + 2)), .int .i64 (U (k * 12 + 3)), .int .i64 (U (k * 12 + 4)), .int .i64 (U (k * 12 + 5)), .int .i64 (U (k * 12 + 6)), .int .i64 (U (k * 12 + 7)), .int .i64 (U (k * 12 + 8)), .int .i64 (U (k * 12 + 9)), .int .i64 (U (k * 12 + 10)), .int .i64 (U (k * 12 + 11))] 41)).cell? ⟨wr.heap.size, 5, none⟩ = some (.int .i64 (U (k * 12 + 5))) := by go_simp
     have hz : wr.heap.size < (wr.alloc (Obj.cells #[.int .i64 (U (k * 12)), .int .i64 (U (k * 12 + 1)), .int .i64 (U (k * 12 + 2)), .int .i64 (U (k * 12 + 3)), .int .i64 (U (k * 12 + 4)), .int .i64 (U (k * 12 + 5)), .int .i64 (U (k * 12 + 6)), .int .i64 (U (k * 12 + 7)), .int .i64 (U (k * 12 + 8)), .int .i64 (U (k * 12 + 9)), .int .i64 (U (k * 12 + 10)), .int .i64 (U (k * 12 + 11))] 41)).heap.size := by simp
     generalize (wr.alloc (Obj.cells #[.int .i64 (U (k * 12)), .int .i64 (U (k * 12 + 1)), .int .i64 (U (k * 12 + 2)), .int .i64 (U (k * 12 + 3)), .int .i64 (U (k * 12 + 4)), .int .i64 (U (k * 12 + 5)), .int .i64 (U (k * 12 + 6)), .int .i64 (U (k * 12 + 7)), .int .i64 (U (k * 12 + 8)), .int .i64 (U (k * 12 + 9)), .int .i64 (U (k * 12 + 10)), .int .i64 (U (k * 12 + 11))] 41)) = wx at hE hB2 x0 x1 x2 x3 x4 x5 hz ⊢
     clear c0 c1 c2 c3 c4 c5 c6 c7 c8 c9 c10 c11 hB
     generalize wr.heap.size = bp at x0 x1 x2 x3 x4 x5 hz hbig ⊢
     have r0 := hB2.r0
     have r1 := hB2.r1
     have r2 := hB2.r2
     have r3 := hB2.r3
     go_cut [10, 11] (fun s10 s11 wd => s10 = .int .i64 F ∧ s11 = .bool KB ∧ RyR w T P (some ⟨b, o, none⟩) n c a' m c' x y u v wd ∧ wd.cell? ⟨bp, 0, none⟩ = some (.int .i64 (U (k * 12))))
     case first =>
      go_wp2_with (go_at_call 9; refine (rayShape_q _ _ _ _ _ _ _ _ _ F KB _ hF).mono ?_; rintro e w4 ⟨rfl, hb4⟩; obtain ⟨hc4, hf4⟩ := bcell hb4; have hz4 := hb4.size; (try simp only [zz] at hc4 hf4 hz4); have hk4x0 := fun o => hc4 (bp) o (by omega); have hj4x0 := fun o => hf4 (bp) o (by omega); have hq4x0 : bp < w4.heap.size := (by omega); clear hc4 hf4)
      go_meet
      exact ⟨rfl, rfl, hB2.on hb4, by go_simp⟩
     case rest =>
     clear hB2 x0 x1 x2 x3 x4 x5 hz r0 r1 r2 r3
     obtain ⟨rfl, rfl, hB, x0⟩ := hcut
     cases KB with
     | false =>
      have hno := rayN_no hF HR.out (by simp)
      go_wp2
      go_roundw
      case rel => exact ⟨k + 1, _, _, by omega, by go_num, rfl, rfl, hno, hB⟩
      case measure => simp [intOf]; omega
     | true =>
      by_cases h1 : i < 0
      · have hyes : Shut (rayN x y u v U (k + 1) = (U (k * 12), F)) := rayN_yes hF HR.out ⟨rfl, .inl h1⟩
        go_wp2
        go_roundw
        case rel => exact ⟨k + 1, _, _, by omega, by go_num, rfl, rfl, hyes.out, hB⟩
        case measure => simp [intOf]; omega
      · by_cases h2 : F < l
        · have hyes : Shut (rayN x y u v U (k + 1) = (U (k * 12), F)) := rayN_yes hF HR.out ⟨rfl, .inr h2⟩
          go_wp2
          go_roundw
          case rel => exact ⟨k + 1, _, _, by omega, by go_num, rfl, rfl, hyes.out, hB⟩
          case measure => simp [intOf]; omega
        · have hno : Shut (rayN x y u v U (k + 1) = (i, l)) := rayN_no hF HR.out (by simp [h1, h2])
          go_wp2
          go_roundw
          case rel => exact ⟨k + 1, _, _, by omega, by go_num, rfl, rfl, hno.out, hB⟩
          case measure => simp [intOf]; omega
   · obtain rfl : k = n := by omega
     rw [hR] at eA
     simp only [Prod.mk.injEq] at eA
     obtain ⟨rfl, rfl⟩ := eA
     clear hR
     go_wp2
     exact bodyPost_ret (v := .tuple #[.int .i64 i, .int .i64 l]) (by simp [results, Tryz.results6, go_sem, *]) rfl ⟨rfl, hB.wd.bel⟩
theorem l5RayOk_q (x y u v : Int) (b : Bool) (w : World) (e : rayB x y u v = b) : Calls Tryz.prog 20 #[b4 x y u v] w fun e w' => e = .returned (.bool b) ∧ Below w.heap.size w w' := by subst e; exact l5RayOk_any x y u v w
theorem sWorldRay_q (T P : Int) (a : Option Addr) (n c : Nat) (U : Nat → Int) (a' : Option Addr) (m c' : Nat) (Q : Nat → Int) (x y u v i0 l0 : Int) (w : World) (h : Flat w a (n * 12) U) (h' : Flat w a' (m * 2) Q) (hn : n ≤ 1048576) (hm : m ≤ 1048576) (eA : rayA T P n U m Q x y u v = (i0, l0)) :
 Calls Tryz.prog 7 #[worldW T P a n c a' m c', b4 x y u v] w fun e w' => e = .returned (.tuple #[.int .i64 i0, .int .i64 l0]) ∧ Below w.heap.size w w' := by
 have hset := cset_map
 have hS := RyR.start w T P x y u v a a' n c m c'
 cases hok : worldB T P n U m Q with
 | false =>
  unfold rayA at eA
  rw [hok] at eA
  simp only [cond_false, Prod.mk.injEq] at eA
  obtain ⟨rfl, rfl⟩ := eA
  go_enter Tryz.func7, Tryz.ntmps7
  go_wp2_with (go_at_call 8; refine (sWorldOk_q T P a n c U a' m c' Q _ (h.below hS.wd.bel) (h'.below hS.wd.bel) hn hm false hok).mono ?_; rintro e w1 ⟨rfl, hb1⟩)
  exact bodyPost_ret (v := .tuple #[.int .i64 (-1), .int .i64 0]) (by simp [results, Tryz.results7, go_sem, *]) rfl ⟨rfl, (hS.on hb1).wd.bel⟩
 | true =>
  unfold rayA at eA
  rw [hok] at eA
  simp only [cond_true] at eA
  cases hry : rayB x y u v with
  | false =>
   rw [rayN_bad hry] at eA
   simp only [Prod.mk.injEq] at eA
   obtain ⟨rfl, rfl⟩ := eA
   go_enter Tryz.func7, Tryz.ntmps7
   go_wp2_with (first
    | (go_at_call 8; refine (sWorldOk_q T P a n c U a' m c' Q _ (h.below hS.wd.bel) (h'.below hS.wd.bel) hn hm true hok).mono ?_; rintro e w1 ⟨rfl, hb1⟩; have hB1 := hS.on hb1; have r0 := hB1.r0; have r1 := hB1.r1; have r2 := hB1.r2; have r3 := hB1.r3)
    | (go_at_call 20; refine (l5RayOk_q _ _ _ _ _ _ hry).mono ?_; rintro e w2 ⟨rfl, hb2⟩))
   exact bodyPost_ret (v := .tuple #[.int .i64 (-1), .int .i64 0]) (by simp [results, Tryz.results7, go_sem, *]) rfl ⟨rfl, (hB1.on hb2).wd.bel⟩
  | true =>
   go_enter Tryz.func7, Tryz.ntmps7
   go_upto_region 5 with (first
    | (go_at_call 8; refine (sWorldOk_q T P a n c U a' m c' Q _ (h.below hS.wd.bel) (h'.below hS.wd.bel) hn hm true hok).mono ?_; rintro e w1 ⟨rfl, hb1⟩; have hB0 := hS.on hb1; have r0 := hB0.r0; have r1 := hB0.r1; have r2 := hB0.r2; have r3 := hB0.r3)
    | (go_at_call 20; refine (l5RayOk_q _ _ _ _ _ _ hry).mono ?_; rintro e w2 ⟨rfl, hb2⟩))
   have hB1 := hB0.on hb2
   clear hb1 hS hb2 hB0 r0 r1 r2 r3
   go_wp2
   go_loopw [6, 7, 8, 9, 10] (fun s6 s7 s _ _ wr => ∃ (k : Nat) (i l : Int), k ≤ n ∧ s = .int .i64 (k : Int) ∧ s6 = .int .i64 i ∧ s7 = .int .i64 l ∧ rayN x y u v U k = (i, l) ∧ RyR w T P a n c a' m c' x y u v wr) (fun _ _ s _ _ _ => n - (intOf s).toNat)
   case atStart => exact ⟨0, -1, 0, Nat.zero_le _, rfl, rfl, rfl, rfl, hB1⟩
   case round =>
    clear hB1
    obtain ⟨k, i, l, hk, rfl, rfl, rfl, hR, hB⟩ := hrel
    have hbig := hB.big
    have z2 := hB.wd.c2
    by_cases hlt : k < n
    · have hkn : (k : Int) < (n : Int) := by omega
      obtain ⟨b, o, rfl, hbl, hc⟩ := (h.below hB.wd.bel) (by omega)
      have c0 := hc (k * 12) (by omega)
      have c1 := hc (k * 12 + 1) (by omega)
      have c2 := hc (k * 12 + 2) (by omega)
      have c3 := hc (k * 12 + 3) (by omega)
      have c4 := hc (k * 12 + 4) (by omega)
      have c5 := hc (k * 12 + 5) (by omega)
      simp only [← Nat.add_assoc] at c0 c1 c2 c3 c4 c5
      clear hc
      obtain ⟨F, KB, hF⟩ : ∃ F KB, rsAt x y u v U k = (F, KB) := ⟨_, _, rfl⟩
      have HR : Shut (rayN x y u v U k = (i, l)) := hR
      clear hR
      have r0 := hB.r0
      have r1 := hB.r1
      have r2 := hB.r2
      have r3 := hB.r3
      go_upto_region 8 with fail
      go_cut [9, 10] (fun s9 s10 wd => s9 = .int .i64 F ∧ s10 = .bool KB ∧ RyR w T P (some ⟨b, o, none⟩) n c a' m c' x y u v wd ∧ wd.cell? ⟨b, o + k * 12, none⟩ = some (.int .i64 (U (k * 12))))
      case first =>
       refine wp_region_held_drew (S := fun w' => w'.cell? ⟨w.heap.size + 1, 0, none⟩ = some (.int .i64 x) ∧ w'.cell? ⟨w.heap.size + 1, 1, none⟩ = some (.int .i64 y) ∧ w'.cell? ⟨w.heap.size + 1, 2, none⟩ = some (.int .i64 u) ∧ w'.cell? ⟨w.heap.size + 1, 3, none⟩ = some (.int .i64 v) ∧ w'.cell? ⟨w.heap.size, 2, none⟩ = some (.slice (some ⟨b, o, none⟩) n c) ∧ w'.cell? ⟨b, o + k * 12 + 1, none⟩ = some (.int .i64 (U (k * 12 + 1))) ∧ w'.cell? ⟨b, o + k * 12 + 2, none⟩ = some (.int .i64 (U (k * 12 + 2))) ∧ w'.cell? ⟨b, o + k * 12 + 3, none⟩ = some (.int .i64 (U (k * 12 + 3))) ∧ w'.cell? ⟨b, o + k * 12 + 4, none⟩ = some (.int .i64 (U (k * 12 + 4))) ∧ w'.cell? ⟨b, o + k * 12 + 5, none⟩ = some (.int .i64 (U (k * 12 + 5)))) (by kernel_rfl) ?_ (fun hHeld => ?_)
       · (try dsimp only)
         (first | (go_simp; done) | (go_keep; done))
       refine tq 0 hHeld ?_
       refine tq 1 hHeld ?_
       refine tq 2 hHeld ?_
       refine tq 3 hHeld ?_
       refine tq 4 hHeld ?_
       refine tq 5 hHeld ?_
       refine tq 6 hHeld ?_
       refine tq 7 hHeld ?_
       refine tq 8 hHeld ?_
       refine tq 9 hHeld ?_
       refine tq 10 hHeld ?_
       refine tq 11 hHeld ?_
       refine tq 12 hHeld ?_
       (refine tc 13 fun K hK => ?_; go_simp; (go_at_call 21; refine (sRayShape_q _ _ _ _ _ _ _ _ _ F KB _ hF).mono ?_; rintro e w4 ⟨rfl, hb4⟩; obtain ⟨hc4, hf4⟩ := bcell hb4; have hz4 := hb4.size; (try simp only [zz] at hc4 hf4 hz4); have hk4x0 := fun o => hc4 (w.heap.size) o (by omega); have hj4x0 := fun o => hf4 (w.heap.size) o (by omega); have hq4x0 : w.heap.size < w4.heap.size := (by omega); have hk4x1 := fun o => hc4 (w.heap.size + 1) o (by omega); have hj4x1 := fun o => hf4 (w.heap.size + 1) o (by omega); have hq4x1 : w.heap.size + 1 < w4.heap.size := (by omega); have hk4x2 := fun o => hc4 (b) o (by omega); have hj4x2 := fun o => hf4 (b) o (by omega); have hq4x2 : b < w4.heap.size := (by omega); clear hc4 hf4); (try go_wp2_with fail); refine tr hK (fun hHeld => ?_); clear hK K)
       refine tq 14 hHeld ?_
       refine tq 15 hHeld ?_
       refine tq 16 hHeld ?_
       refine tq 17 hHeld ?_
       refine tq 18 hHeld ?_
       refine wpAnyH_done (by kernel_rfl) ?_ _
       go_wp2_with fail
       go_meet
       exact ⟨rfl, rfl, hB.on hb4.ofDr, by go_simp⟩
      case rest =>
      clear hB z2 c0 c1 c2 c3 c4 c5 r0 r1 r2 r3 hbig
      obtain ⟨rfl, rfl, hB, x0⟩ := hcut
      have z2 := hB.wd.c2
      cases KB with
      | false =>
       have hno := rayN_no hF HR.out (by simp)
       go_wp2
       go_roundw
       case rel => exact ⟨k + 1, _, _, by omega, by go_num, rfl, rfl, hno, hB⟩
       case measure => simp [intOf]; omega
      | true =>
       by_cases h1 : i < 0
       · have hyes : Shut (rayN x y u v U (k + 1) = (U (k * 12), F)) := rayN_yes hF HR.out ⟨rfl, .inl h1⟩
         go_wp2
         go_roundw
         case rel => exact ⟨k + 1, _, _, by omega, by go_num, rfl, rfl, hyes.out, hB⟩
         case measure => simp [intOf]; omega
       · by_cases h2 : F < l
         · have hyes : Shut (rayN x y u v U (k + 1) = (U (k * 12), F)) := rayN_yes hF HR.out ⟨rfl, .inr h2⟩
           go_wp2
           go_roundw
           case rel => exact ⟨k + 1, _, _, by omega, by go_num, rfl, rfl, hyes.out, hB⟩
           case measure => simp [intOf]; omega
         · have hno : Shut (rayN x y u v U (k + 1) = (i, l)) := rayN_no hF HR.out (by simp [h1, h2])
           go_wp2
           go_roundw
           case rel => exact ⟨k + 1, _, _, by omega, by go_num, rfl, rfl, hno.out, hB⟩
           case measure => simp [intOf]; omega
    · obtain rfl : k = n := by omega
      rw [hR] at eA
      simp only [Prod.mk.injEq] at eA
      obtain ⟨rfl, rfl⟩ := eA
      clear hR
      go_wp2
      exact bodyPost_ret (v := .tuple #[.int .i64 i, .int .i64 l]) (by simp [results, Tryz.results7, go_sem, *]) rfl ⟨rfl, hB.wd.bel⟩
end Go.Proofs.YthijeiehcdoidaaGreat
