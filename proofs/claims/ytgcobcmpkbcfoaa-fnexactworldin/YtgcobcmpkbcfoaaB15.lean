/- The body that a ray meets first: both sides. Bodies that are as they should be: their shapes and places. The numbers of bodies, both sides: WorldAt. The numbers of bodies, both sides: WorldIn. The walks of exact laws over boxes. The exact law of WorldIn, walked. Lemmas on whatever program: from the head of its cut's word to the closed facts. Closed facts of the loaded program, each a theorem of its own. Slices of things that are numbers alone, as they come in. Lists of bodies, as they come in. Worlds, as they come in. -/
import Derived.Test.YtgcobcmpkbcfoaaB9
import Derived.Test.YtgcobcmpkbcfoaaB14
import Derived.Deep.RegionHeld3
import Derived.Deep.DeepCutAuto
import Derived.Test.YtgcobcmpkbcfoaaB6
import Derived.Test.YtgcobcmpkbcfoaaB10
import Derived.Test.YtgcobcmpkbcfoaaB3
import Derived.Deep.QuietTactic
import Derived.BigQuiet
import Derived.Deep.RegionWith
import Derived.Test.YtgcobcmpkbcfoaaRows
import Derived.WalkKit
import Derived.JoinedOf
import Derived.ProofKit
import Derived.Test.YtgcobcmpkbcfoaaB1
import Derived.Deep.Slices
import Derived.ChangeSame
import Derived.ChangeArms
namespace Go.Proofs.Ytgcobcmpkbcfoaa
open Go.RowKit
set_option linter.unusedVariables false
set_option linter.unusedSimpArgs false

/-- what a ray does at the body of place k -/
def rsAt (x y u v : Int) (U : Nat → Int) (k : Nat) : Int × Bool := rsP x y u v (U (k * 12 + 1)) (U (k * 12 + 2)) (U (k * 12 + 3)) (U (k * 12 + 4)) (U (k * 12 + 5))
def rayN (x y u v : Int) (U : Nat → Int) : Nat → Int × Int
  | 0 => (-1, 0)
  | k + 1 => if (rsAt x y u v U k).2 = true ∧ ((rayN x y u v U k).1 < 0 ∨ (rsAt x y u v U k).1 < (rayN x y u v U k).2) then (U (k * 12), (rsAt x y u v U k).1) else rayN x y u v U k
theorem rayN_yes {x y u v F i l : Int} {KB : Bool} {U : Nat → Int} {k : Nat} (e : rsAt x y u v U k = (F, KB)) (h : rayN x y u v U k = (i, l)) (q : KB = true ∧ (i < 0 ∨ F < l)) : rayN x y u v U (k + 1) = (U (k * 12), F) := by
  rw [rayN, e, h, if_pos q]
theorem rayN_no {x y u v F i l : Int} {KB : Bool} {U : Nat → Int} {k : Nat} (e : rsAt x y u v U k = (F, KB)) (h : rayN x y u v U k = (i, l)) (q : ¬ (KB = true ∧ (i < 0 ∨ F < l))) : rayN x y u v U (k + 1) = (i, l) := by
  rw [rayN, e, h, if_neg q]
theorem rayN_bad {x y u v : Int} {U : Nat → Int} (h : rayB x y u v = false) : ∀ k, rayN x y u v U k = (-1, 0)
  | 0 => rfl
  | k + 1 => by
    have e : (rsAt x y u v U k).2 = false := by
      obtain ⟨F, KB, e⟩ : ∃ F KB, rsAt x y u v U k = (F, KB) := ⟨_, _, rfl⟩
      have := (rsP_n (e := e) (by rw [h]; rfl)).2
      rw [e]; exact this
    rw [rayN, if_neg (by rw [e]; simp), rayN_bad h k]
def rayA (T P : Int) (n : Nat) (U : Nat → Int) (m : Nat) (Q : Nat → Int) (x y u v : Int) : Int × Int := bif worldB T P n U m Q then rayN x y u v U n else (-1, 0)

/-- what a round over bodies begins with -/
structure RyR (w : World) (T P : Int) (a : Option Addr) (n c : Nat) (a' : Option Addr) (m c' : Nat) (x y u v : Int) (wr : World) : Prop where
  wd : WdR w T P a n c a' m c' wr
  big : w.heap.size + 1 < wr.heap.size
  r0 : wr.cell? ⟨w.heap.size + 1, 0, none⟩ = some (.int .i64 x)
  r1 : wr.cell? ⟨w.heap.size + 1, 1, none⟩ = some (.int .i64 y)
  r2 : wr.cell? ⟨w.heap.size + 1, 2, none⟩ = some (.int .i64 u)
  r3 : wr.cell? ⟨w.heap.size + 1, 3, none⟩ = some (.int .i64 v)
theorem RyR.on {w wr w' : World} {T P x y u v : Int} {a a' : Option Addr} {n c m c' : Nat} (h : RyR w T P a n c a' m c' x y u v wr) (hb : Below wr.heap.size wr w') : RyR w T P a n c a' m c' x y u v w' :=
  ⟨h.wd.on hb, Nat.lt_of_lt_of_le h.big hb.size, (hb.cell (p := ⟨w.heap.size + 1, 0, none⟩) h.big).trans h.r0, (hb.cell (p := ⟨w.heap.size + 1, 1, none⟩) h.big).trans h.r1, (hb.cell (p := ⟨w.heap.size + 1, 2, none⟩) h.big).trans h.r2, (hb.cell (p := ⟨w.heap.size + 1, 3, none⟩) h.big).trans h.r3⟩
theorem RyR.start (w : World) (T P x y u v : Int) (a a' : Option Addr) (n c m c' : Nat) : RyR w T P a n c a' m c' x y u v ((w.alloc (Obj.cells #[.int .i64 T, .int .i64 P, .slice a n c, .slice a' m c'] 31)).alloc (Obj.cells #[.int .i64 x, .int .i64 y, .int .i64 u, .int .i64 v] 57)) :=
  ⟨⟨((Below.refl _ _).alloc (Nat.le_refl _) _).alloc (by simp) _, by simp; omega, by go_simp, by go_simp, by go_simp, by go_simp⟩, by simp, by go_simp, by go_simp, by go_simp, by go_simp⟩
set_option maxRecDepth 20000 in
set_option maxHeartbeats 8000000 in
theorem worldRay_q (T P : Int) (a : Option Addr) (n c : Nat) (U : Nat → Int) (a' : Option Addr) (m c' : Nat) (Q : Nat → Int) (x y u v i0 l0 : Int) (w : World) (h : Flat w a (n * 12) U) (h' : Flat w a' (m * 2) Q) (hn : n ≤ 1048576) (hm : m ≤ 1048576) (eA : rayA T P n U m Q x y u v = (i0, l0)) :
    Calls Try.prog 24 #[worldW T P a n c a' m c', b4 x y u v] w fun e w' => e = .returned (.tuple #[.int .i64 i0, .int .i64 l0]) ∧ Below w.heap.size w w' := by
  have hset := cset_map
  have hS := RyR.start w T P x y u v a a' n c m c'
  cases hok : worldB T P n U m Q with
  | false =>
    unfold rayA at eA
    rw [hok] at eA
    simp only [cond_false, Prod.mk.injEq] at eA
    obtain ⟨rfl, rfl⟩ := eA
    go_enter Try.func24, Try.ntmps24
    go_wp2_with (go_at_call 10; refine (worldOk_q T P a n c U a' m c' Q _ (h.below hS.wd.bel) (h'.below hS.wd.bel) hn hm false hok).mono ?_; rintro e w1 ⟨rfl, hb1⟩)
    exact bodyPost_ret (v := .tuple #[.int .i64 (-1), .int .i64 0]) (by simp [results, Try.results24, go_sem, *]) rfl ⟨rfl, (hS.on hb1).wd.bel⟩
  | true =>
    unfold rayA at eA
    rw [hok] at eA
    simp only [cond_true] at eA
    have z2 := hS.wd.c2
    go_enter Try.func24, Try.ntmps24
    go_upto_region 4 with (go_at_call 10; refine (worldOk_q T P a n c U a' m c' Q _ (h.below hS.wd.bel) (h'.below hS.wd.bel) hn hm true hok).mono ?_; rintro e w1 ⟨rfl, hb1⟩)
    have hB1 := hS.on hb1
    clear hb1 hS z2
    have z2 := hB1.wd.c2
    go_wp2
    clear z2
    go_loopw [6, 7, 9, 10, 11, 20] (fun s6 s7 _ _ _ s wr => ∃ (k : Nat) (i l : Int), k ≤ n ∧ s = .int .i64 (k : Int) ∧ s6 = .int .i64 i ∧ s7 = .int .i64 l ∧ rayN x y u v U k = (i, l) ∧ RyR w T P a n c a' m c' x y u v wr) (fun _ _ _ _ _ s _ => n - (intOf s).toNat)
    case atStart => exact ⟨0, -1, 0, Nat.zero_le _, rfl, rfl, rfl, rfl, hB1⟩
    case round =>
      clear hB1
      obtain ⟨k, i, l, hk, rfl, rfl, rfl, hR, hB⟩ := hrel
      have hbig := hB.big
      by_cases hlt : k < n
      · obtain ⟨b, o, rfl, hbl, hc⟩ := (h.below hB.wd.bel) (by omega)
        have c0 := hc (k * 12) (by omega)
        have c1 := hc (k * 12 + 1) (by omega)
        have c2 := hc (k * 12 + 2) (by omega)
        have c3 := hc (k * 12 + 3) (by omega)
        have c4 := hc (k * 12 + 4) (by omega)
        have c5 := hc (k * 12 + 5) (by omega)
        have c6 := hc (k * 12 + 6) (by omega)
        have c7 := hc (k * 12 + 7) (by omega)
        have c8 := hc (k * 12 + 8) (by omega)
        have c9 := hc (k * 12 + 9) (by omega)
        have c10 := hc (k * 12 + 10) (by omega)
        have c11 := hc (k * 12 + 11) (by omega)
        simp only [← Nat.add_assoc] at c0 c1 c2 c3 c4 c5 c6 c7 c8 c9 c10 c11
        clear hc
        obtain ⟨F, KB, hF⟩ : ∃ F KB, rsAt x y u v U k = (F, KB) := ⟨_, _, rfl⟩
        have HR : Shut (rayN x y u v U k = (i, l)) := hR
        clear hR
        go_upto_region 7 with fail
        have hE : Below wr.heap.size wr (wr.alloc (Obj.cells #[.int .i64 (U (k * 12)), .int .i64 (U (k * 12 + 1)), .int .i64 (U (k * 12 + 2)), .int .i64 (U (k * 12 + 3)), .int .i64 (U (k * 12 + 4)), .int .i64 (U (k * 12 + 5)), .int .i64 (U (k * 12 + 6)), .int .i64 (U (k * 12 + 7)), .int .i64 (U (k * 12 + 8)), .int .i64 (U (k * 12 + 9)), .int .i64 (U (k * 12 + 10)), .int .i64 (U (k * 12 + 11))] 81)) := (Below.refl _ _).alloc (Nat.le_refl _) _
        have hB2 := hB.on hE
        have x0 : (wr.alloc (Obj.cells #[.int .i64 (U (k * 12)), .int .i64 (U (k * 12 + 1)), .int .i64 (U (k * 12 + 2)), .int .i64 (U (k * 12 + 3)), .int .i64 (U (k * 12 + 4)), .int .i64 (U (k * 12 + 5)), .int .i64 (U (k * 12 + 6)), .int .i64 (U (k * 12 + 7)), .int .i64 (U (k * 12 + 8)), .int .i64 (U (k * 12 + 9)), .int .i64 (U (k * 12 + 10)), .int .i64 (U (k * 12 + 11))] 81)).cell? ⟨wr.heap.size, 0, none⟩ = some (.int .i64 (U (k * 12))) := by go_simp
        have x1 : (wr.alloc (Obj.cells #[.int .i64 (U (k * 12)), .int .i64 (U (k * 12 + 1)), .int .i64 (U (k * 12 + 2)), .int .i64 (U (k * 12 + 3)), .int .i64 (U (k * 12 + 4)), .int .i64 (U (k * 12 + 5)), .int .i64 (U (k * 12 + 6)), .int .i64 (U (k * 12 + 7)), .int .i64 (U (k * 12 + 8)), .int .i64 (U (k * 12 + 9)), .int .i64 (U (k * 12 + 10)), .int .i64 (U (k * 12 + 11))] 81)).cell? ⟨wr.heap.size, 1, none⟩ = some (.int .i64 (U (k * 12 + 1))) := by go_simp
        have x2 : (wr.alloc (Obj.cells #[.int .i64 (U (k * 12)), .int .i64 (U (k * 12 + 1)), .int .i64 (U (k * 12 + 2)), .int .i64 (U (k * 12 + 3)), .int .i64 (U (k * 12 + 4)), .int .i64 (U (k * 12 + 5)), .int .i64 (U (k * 12 + 6)), .int .i64 (U (k * 12 + 7)), .int .i64 (U (k * 12 + 8)), .int .i64 (U (k * 12 + 9)), .int .i64 (U (k * 12 + 10)), .int .i64 (U (k * 12 + 11))] 81)).cell? ⟨wr.heap.size, 2, none⟩ = some (.int .i64 (U (k * 12 + 2))) := by go_simp
        have x3 : (wr.alloc (Obj.cells #[.int .i64 (U (k * 12)), .int .i64 (U (k * 12 + 1)), .int .i64 (U (k * 12 + 2)), .int .i64 (U (k * 12 + 3)), .int .i64 (U (k * 12 + 4)), .int .i64 (U (k * 12 + 5)), .int .i64 (U (k * 12 + 6)), .int .i64 (U (k * 12 + 7)), .int .i64 (U (k * 12 + 8)), .int .i64 (U (k * 12 + 9)), .int .i64 (U (k * 12 + 10)), .int .i64 (U (k * 12 + 11))] 81)).cell? ⟨wr.heap.size, 3, none⟩ = some (.int .i64 (U (k * 12 + 3))) := by go_simp
        have x4 : (wr.alloc (Obj.cells #[.int .i64 (U (k * 12)), .int .i64 (U (k * 12 + 1)), .int .i64 (U (k * 12 + 2)), .int .i64 (U (k * 12 + 3)), .int .i64 (U (k * 12 + 4)), .int .i64 (U (k * 12 + 5)), .int .i64 (U (k * 12 + 6)), .int .i64 (U (k * 12 + 7)), .int .i64 (U (k * 12 + 8)), .int .i64 (U (k * 12 + 9)), .int .i64 (U (k * 12 + 10)), .int .i64 (U (k * 12 + 11))] 81)).cell? ⟨wr.heap.size, 4, none⟩ = some (.int .i64 (U (k * 12 + 4))) := by go_simp
        have x5 : (wr.alloc (Obj.cells #[.int .i64 (U (k * 12)), .int .i64 (U (k * 12 + 1)), .int .i64 (U (k * 12 + 2)), .int .i64 (U (k * 12 + 3)), .int .i64 (U (k * 12 + 4)), .int .i64 (U (k * 12 + 5)), .int .i64 (U (k * 12 + 6)), .int .i64 (U (k * 12 + 7)), .int .i64 (U (k * 12 + 8)), .int .i64 (U (k * 12 + 9)), .int .i64 (U (k * 12 + 10)), .int .i64 (U (k * 12 + 11))] 81)).cell? ⟨wr.heap.size, 5, none⟩ = some (.int .i64 (U (k * 12 + 5))) := by go_simp
        have hz : wr.heap.size < (wr.alloc (Obj.cells #[.int .i64 (U (k * 12)), .int .i64 (U (k * 12 + 1)), .int .i64 (U (k * 12 + 2)), .int .i64 (U (k * 12 + 3)), .int .i64 (U (k * 12 + 4)), .int .i64 (U (k * 12 + 5)), .int .i64 (U (k * 12 + 6)), .int .i64 (U (k * 12 + 7)), .int .i64 (U (k * 12 + 8)), .int .i64 (U (k * 12 + 9)), .int .i64 (U (k * 12 + 10)), .int .i64 (U (k * 12 + 11))] 81)).heap.size := by simp
        generalize (wr.alloc (Obj.cells #[.int .i64 (U (k * 12)), .int .i64 (U (k * 12 + 1)), .int .i64 (U (k * 12 + 2)), .int .i64 (U (k * 12 + 3)), .int .i64 (U (k * 12 + 4)), .int .i64 (U (k * 12 + 5)), .int .i64 (U (k * 12 + 6)), .int .i64 (U (k * 12 + 7)), .int .i64 (U (k * 12 + 8)), .int .i64 (U (k * 12 + 9)), .int .i64 (U (k * 12 + 10)), .int .i64 (U (k * 12 + 11))] 81)) = wx at hE hB2 x0 x1 x2 x3 x4 x5 hz ⊢
        clear c0 c1 c2 c3 c4 c5 c6 c7 c8 c9 c10 c11 hB
        generalize wr.heap.size = bp at x0 x1 x2 x3 x4 x5 hz hbig ⊢
        have r0 := hB2.r0
        have r1 := hB2.r1
        have r2 := hB2.r2
        have r3 := hB2.r3
        go_cut [10, 11] (fun s10 s11 wd => s10 = .int .i64 F ∧ s11 = .bool KB ∧ RyR w T P (some ⟨b, o, none⟩) n c a' m c' x y u v wd ∧ wd.cell? ⟨bp, 0, none⟩ = some (.int .i64 (U (k * 12))))
        case first =>
          go_wp2_with (go_at_call 53; refine (rayShape_q _ _ _ _ _ _ _ _ _ F KB _ hF).mono ?_; rintro e w4 ⟨rfl, hb4⟩; obtain ⟨hc4, hf4⟩ := bcell hb4; have hz4 := hb4.size; (try simp only [World.size_drew, World.size_alloc, World.size_setCell] at hc4 hf4 hz4); have hk4x0 := fun o => hc4 (bp) o (by omega); have hj4x0 := fun o => hf4 (bp) o (by omega); have hq4x0 : bp < w4.heap.size := (by omega); clear hc4 hf4)
          go_meet
          exact ⟨rfl, rfl, hB2.on hb4, by go_simp⟩
        case rest =>
        clear hB2 x0 x1 x2 x3 x4 x5 hz r0 r1 r2 r3
        obtain ⟨rfl, rfl, hB, x0⟩ := hcut
        cases KB with
        | false =>
          have hno := rayN_no hF HR.out (by simp)
          go_wp2
          go_roundw
          case rel => exact ⟨k + 1, _, _, by omega, by go_num, rfl, rfl, hno, hB⟩
          case measure => simp [intOf]; omega
        | true =>
          by_cases h1 : i < 0
          · have hyes : Shut (rayN x y u v U (k + 1) = (U (k * 12), F)) := rayN_yes hF HR.out ⟨rfl, .inl h1⟩
            go_wp2
            go_roundw
            case rel => exact ⟨k + 1, _, _, by omega, by go_num, rfl, rfl, hyes.out, hB⟩
            case measure => simp [intOf]; omega
          · by_cases h2 : F < l
            · have hyes : Shut (rayN x y u v U (k + 1) = (U (k * 12), F)) := rayN_yes hF HR.out ⟨rfl, .inr h2⟩
              go_wp2
              go_roundw
              case rel => exact ⟨k + 1, _, _, by omega, by go_num, rfl, rfl, hyes.out, hB⟩
              case measure => simp [intOf]; omega
            · have hno : Shut (rayN x y u v U (k + 1) = (i, l)) := rayN_no hF HR.out (by simp [h1, h2])
              go_wp2
              go_roundw
              case rel => exact ⟨k + 1, _, _, by omega, by go_num, rfl, rfl, hno.out, hB⟩
              case measure => simp [intOf]; omega
      · obtain rfl : k = n := by omega
        rw [hR] at eA
        simp only [Prod.mk.injEq] at eA
        obtain ⟨rfl, rfl⟩ := eA
        clear hR
        go_wp2
        exact bodyPost_ret (v := .tuple #[.int .i64 i, .int .i64 l]) (by simp [results, Try.results24, go_sem, *]) rfl ⟨rfl, hB.wd.bel⟩

theorem l5RayOk_q (x y u v : Int) (b : Bool) (w : World) (e : rayB x y u v = b) : Calls Try.prog 51 #[b4 x y u v] w fun e w' => e = .returned (.bool b) ∧ Below w.heap.size w w' := by subst e; exact l5RayOk_any x y u v w
set_option maxRecDepth 20000 in
set_option maxHeartbeats 8000000 in
theorem sWorldRay_q (T P : Int) (a : Option Addr) (n c : Nat) (U : Nat → Int) (a' : Option Addr) (m c' : Nat) (Q : Nat → Int) (x y u v i0 l0 : Int) (w : World) (h : Flat w a (n * 12) U) (h' : Flat w a' (m * 2) Q) (hn : n ≤ 1048576) (hm : m ≤ 1048576) (eA : rayA T P n U m Q x y u v = (i0, l0)) :
    Calls Try.prog 22 #[worldW T P a n c a' m c', b4 x y u v] w fun e w' => e = .returned (.tuple #[.int .i64 i0, .int .i64 l0]) ∧ Below w.heap.size w w' := by
  have hset := cset_map
  have hS := RyR.start w T P x y u v a a' n c m c'
  cases hok : worldB T P n U m Q with
  | false =>
    unfold rayA at eA
    rw [hok] at eA
    simp only [cond_false, Prod.mk.injEq] at eA
    obtain ⟨rfl, rfl⟩ := eA
    go_enter Try.func22, Try.ntmps22
    go_wp2_with (go_at_call 8; refine (sWorldOk_q T P a n c U a' m c' Q _ (h.below hS.wd.bel) (h'.below hS.wd.bel) hn hm false hok).mono ?_; rintro e w1 ⟨rfl, hb1⟩)
    exact bodyPost_ret (v := .tuple #[.int .i64 (-1), .int .i64 0]) (by simp [results, Try.results22, go_sem, *]) rfl ⟨rfl, (hS.on hb1).wd.bel⟩
  | true =>
    unfold rayA at eA
    rw [hok] at eA
    simp only [cond_true] at eA
    cases hry : rayB x y u v with
    | false =>
      rw [rayN_bad hry] at eA
      simp only [Prod.mk.injEq] at eA
      obtain ⟨rfl, rfl⟩ := eA
      go_enter Try.func22, Try.ntmps22
      go_wp2_with (first
        | (go_at_call 8; refine (sWorldOk_q T P a n c U a' m c' Q _ (h.below hS.wd.bel) (h'.below hS.wd.bel) hn hm true hok).mono ?_; rintro e w1 ⟨rfl, hb1⟩; have hB1 := hS.on hb1; have r0 := hB1.r0; have r1 := hB1.r1; have r2 := hB1.r2; have r3 := hB1.r3)
        | (go_at_call 51; refine (l5RayOk_q _ _ _ _ _ _ hry).mono ?_; rintro e w2 ⟨rfl, hb2⟩))
      exact bodyPost_ret (v := .tuple #[.int .i64 (-1), .int .i64 0]) (by simp [results, Try.results22, go_sem, *]) rfl ⟨rfl, (hB1.on hb2).wd.bel⟩
    | true =>
      go_enter Try.func22, Try.ntmps22
      go_upto_region 5 with (first
        | (go_at_call 8; refine (sWorldOk_q T P a n c U a' m c' Q _ (h.below hS.wd.bel) (h'.below hS.wd.bel) hn hm true hok).mono ?_; rintro e w1 ⟨rfl, hb1⟩; have hB0 := hS.on hb1; have r0 := hB0.r0; have r1 := hB0.r1; have r2 := hB0.r2; have r3 := hB0.r3)
        | (go_at_call 51; refine (l5RayOk_q _ _ _ _ _ _ hry).mono ?_; rintro e w2 ⟨rfl, hb2⟩))
      have hB1 := hB0.on hb2
      clear hb1 hS hb2 hB0 r0 r1 r2 r3
      go_wp2
      go_loopw [6, 7, 8, 9, 10] (fun s6 s7 s _ _ wr => ∃ (k : Nat) (i l : Int), k ≤ n ∧ s = .int .i64 (k : Int) ∧ s6 = .int .i64 i ∧ s7 = .int .i64 l ∧ rayN x y u v U k = (i, l) ∧ RyR w T P a n c a' m c' x y u v wr) (fun _ _ s _ _ _ => n - (intOf s).toNat)
      case atStart => exact ⟨0, -1, 0, Nat.zero_le _, rfl, rfl, rfl, rfl, hB1⟩
      case round =>
        clear hB1
        obtain ⟨k, i, l, hk, rfl, rfl, rfl, hR, hB⟩ := hrel
        have hbig := hB.big
        have z2 := hB.wd.c2
        by_cases hlt : k < n
        · have hkn : (k : Int) < (n : Int) := by omega
          obtain ⟨b, o, rfl, hbl, hc⟩ := (h.below hB.wd.bel) (by omega)
          have c0 := hc (k * 12) (by omega)
          have c1 := hc (k * 12 + 1) (by omega)
          have c2 := hc (k * 12 + 2) (by omega)
          have c3 := hc (k * 12 + 3) (by omega)
          have c4 := hc (k * 12 + 4) (by omega)
          have c5 := hc (k * 12 + 5) (by omega)
          simp only [← Nat.add_assoc] at c0 c1 c2 c3 c4 c5
          clear hc
          obtain ⟨F, KB, hF⟩ : ∃ F KB, rsAt x y u v U k = (F, KB) := ⟨_, _, rfl⟩
          have HR : Shut (rayN x y u v U k = (i, l)) := hR
          clear hR
          have r0 := hB.r0
          have r1 := hB.r1
          have r2 := hB.r2
          have r3 := hB.r3
          go_upto_region 8 with fail
          go_cut [9, 10] (fun s9 s10 wd => s9 = .int .i64 F ∧ s10 = .bool KB ∧ RyR w T P (some ⟨b, o, none⟩) n c a' m c' x y u v wd ∧ wd.cell? ⟨b, o + k * 12, none⟩ = some (.int .i64 (U (k * 12))))
          case first =>
            refine wp_region_held_drew (S := fun w' => w'.cell? ⟨w.heap.size + 1, 0, none⟩ = some (.int .i64 x) ∧ w'.cell? ⟨w.heap.size + 1, 1, none⟩ = some (.int .i64 y) ∧ w'.cell? ⟨w.heap.size + 1, 2, none⟩ = some (.int .i64 u) ∧ w'.cell? ⟨w.heap.size + 1, 3, none⟩ = some (.int .i64 v) ∧ w'.cell? ⟨w.heap.size, 2, none⟩ = some (.slice (some ⟨b, o, none⟩) n c) ∧ w'.cell? ⟨b, o + k * 12 + 1, none⟩ = some (.int .i64 (U (k * 12 + 1))) ∧ w'.cell? ⟨b, o + k * 12 + 2, none⟩ = some (.int .i64 (U (k * 12 + 2))) ∧ w'.cell? ⟨b, o + k * 12 + 3, none⟩ = some (.int .i64 (U (k * 12 + 3))) ∧ w'.cell? ⟨b, o + k * 12 + 4, none⟩ = some (.int .i64 (U (k * 12 + 4))) ∧ w'.cell? ⟨b, o + k * 12 + 5, none⟩ = some (.int .i64 (U (k * 12 + 5)))) (by kernel_rfl) ?_ (fun hHeld => ?_)
            · (try dsimp only)
              (first | (go_simp; done) | (go_keep; done))
            refine tq 0 hHeld ?_
            refine tq 1 hHeld ?_
            refine tq 2 hHeld ?_
            refine tq 3 hHeld ?_
            refine tq 4 hHeld ?_
            refine tq 5 hHeld ?_
            refine tq 6 hHeld ?_
            refine tq 7 hHeld ?_
            refine tq 8 hHeld ?_
            refine tq 9 hHeld ?_
            refine tq 10 hHeld ?_
            refine tq 11 hHeld ?_
            refine tq 12 hHeld ?_
            (refine tc 13 fun K hK => ?_; go_simp; (go_at_call 52; refine (sRayShape_q _ _ _ _ _ _ _ _ _ F KB _ hF).mono ?_; rintro e w4 ⟨rfl, hb4⟩; obtain ⟨hc4, hf4⟩ := bcell hb4; have hz4 := hb4.size; (try simp only [World.size_drew, World.size_alloc, World.size_setCell] at hc4 hf4 hz4); have hk4x0 := fun o => hc4 (w.heap.size) o (by omega); have hj4x0 := fun o => hf4 (w.heap.size) o (by omega); have hq4x0 : w.heap.size < w4.heap.size := (by omega); have hk4x1 := fun o => hc4 (w.heap.size + 1) o (by omega); have hj4x1 := fun o => hf4 (w.heap.size + 1) o (by omega); have hq4x1 : w.heap.size + 1 < w4.heap.size := (by omega); have hk4x2 := fun o => hc4 (b) o (by omega); have hj4x2 := fun o => hf4 (b) o (by omega); have hq4x2 : b < w4.heap.size := (by omega); clear hc4 hf4); (try go_wp2_with fail); refine tr hK (fun hHeld => ?_); clear hK K)
            refine tq 14 hHeld ?_
            refine tq 15 hHeld ?_
            refine tq 16 hHeld ?_
            refine tq 17 hHeld ?_
            refine tq 18 hHeld ?_
            refine wpAnyH_done (by kernel_rfl) ?_ _
            go_wp2_with fail
            go_meet
            exact ⟨rfl, rfl, hB.on hb4.ofDr, by go_simp⟩
          case rest =>
          clear hB z2 c0 c1 c2 c3 c4 c5 r0 r1 r2 r3 hbig
          obtain ⟨rfl, rfl, hB, x0⟩ := hcut
          have z2 := hB.wd.c2
          cases KB with
          | false =>
            have hno := rayN_no hF HR.out (by simp)
            go_wp2
            go_roundw
            case rel => exact ⟨k + 1, _, _, by omega, by go_num, rfl, rfl, hno, hB⟩
            case measure => simp [intOf]; omega
          | true =>
            by_cases h1 : i < 0
            · have hyes : Shut (rayN x y u v U (k + 1) = (U (k * 12), F)) := rayN_yes hF HR.out ⟨rfl, .inl h1⟩
              go_wp2
              go_roundw
              case rel => exact ⟨k + 1, _, _, by omega, by go_num, rfl, rfl, hyes.out, hB⟩
              case measure => simp [intOf]; omega
            · by_cases h2 : F < l
              · have hyes : Shut (rayN x y u v U (k + 1) = (U (k * 12), F)) := rayN_yes hF HR.out ⟨rfl, .inr h2⟩
                go_wp2
                go_roundw
                case rel => exact ⟨k + 1, _, _, by omega, by go_num, rfl, rfl, hyes.out, hB⟩
                case measure => simp [intOf]; omega
              · have hno : Shut (rayN x y u v U (k + 1) = (i, l)) := rayN_no hF HR.out (by simp [h1, h2])
                go_wp2
                go_roundw
                case rel => exact ⟨k + 1, _, _, by omega, by go_num, rfl, rfl, hno.out, hB⟩
                case measure => simp [intOf]; omega
        · obtain rfl : k = n := by omega
          rw [hR] at eA
          simp only [Prod.mk.injEq] at eA
          obtain ⟨rfl, rfl⟩ := eA
          clear hR
          go_wp2
          exact bodyPost_ret (v := .tuple #[.int .i64 i, .int .i64 l]) (by simp [results, Try.results22, go_sem, *]) rfl ⟨rfl, hB.wd.bel⟩
end Go.Proofs.Ytgcobcmpkbcfoaa
namespace Go.Proofs.Ytgcobcmpkbcfoaa
open Go.RowKit
set_option linter.unusedVariables false
theorem bods_sh {U : Nat → Int} {n k : Nat} (h : bodsB n U = true) (l : k < n) : shB (U (k * 12 + 1)) (U (k * 12 + 2)) (U (k * 12 + 3)) = true ∧ inB 2560000 (U (k * 12 + 4)) (U (k * 12 + 5)) = true := by
  unfold bodsB at h
  rw [Bool.and_eq_true] at h
  have h2 : bodyB (fun j => U (k * 12 + j)) = true := by
    have key : ∀ m, allBB U m = true → k < m → stepBB U k = true := by
      intro m
      induction m with
      | zero => intro _ l; omega
      | succ m ih =>
        intro hm l
        unfold allBB at hm
        rw [Bool.and_eq_true] at hm
        by_cases e : k = m
        · subst e; exact hm.2
        · exact ih hm.1 (by omega)
    have := key n h.2 l
    unfold stepBB at this
    rw [Bool.and_eq_true] at this
    exact this.1
  unfold bodyB at h2
  simp only [Bool.and_eq_true] at h2
  exact ⟨h2.2.1, h2.2.2.1⟩
theorem shB_two {k g h : Int} (e : shB k g h = true) : (k = 1 ∧ h = 0 ∧ 1 ≤ g ∧ g ≤ 25600) ∨ (k = 2 ∧ 1 ≤ g ∧ g ≤ 25600 ∧ 1 ≤ h ∧ h ≤ 25600) := by
  unfold shB rdB bxB at e; simp only [Bool.or_eq_true, decide_eq_true_eq] at e; omega
end Go.Proofs.Ytgcobcmpkbcfoaa
namespace Go.Proofs.Ytgcobcmpkbcfoaa
open Go.RowKit
set_option linter.unusedVariables false
set_option linter.unusedSimpArgs false
/-- what a round over bodies begins with -/
structure VcR (w : World) (T P : Int) (a : Option Addr) (n c : Nat) (a' : Option Addr) (m c' : Nat) (x y : Int) (wr : World) : Prop where
  wd : WdR w T P a n c a' m c' wr
  big : w.heap.size + 1 < wr.heap.size
  r0 : wr.cell? ⟨w.heap.size + 1, 0, none⟩ = some (.int .i64 x)
  r1 : wr.cell? ⟨w.heap.size + 1, 1, none⟩ = some (.int .i64 y)
theorem VcR.on {w wr w' : World} {T P x y : Int} {a a' : Option Addr} {n c m c' : Nat} (h : VcR w T P a n c a' m c' x y wr) (hb : Below wr.heap.size wr w') : VcR w T P a n c a' m c' x y w' :=
  ⟨h.wd.on hb, Nat.lt_of_lt_of_le h.big hb.size, (hb.cell (p := ⟨w.heap.size + 1, 0, none⟩) h.big).trans h.r0, (hb.cell (p := ⟨w.heap.size + 1, 1, none⟩) h.big).trans h.r1⟩
theorem VcR.startB (w : World) (T P : Int) (x y : Int) (a a' : Option Addr) (n c m c' : Nat) : VcR w T P a n c a' m c' x y ((w.alloc (Obj.cells #[.int .i64 T, .int .i64 P, .slice a n c, .slice a' m c'] 31)).alloc (Obj.cells #[.int .i64 x, .int .i64 y] 39)) :=
  ⟨⟨((Below.refl _ _).alloc (Nat.le_refl _) _).alloc (by simp) _, by simp; omega, by go_simp, by go_simp, by go_simp, by go_simp⟩, by simp, by go_simp, by go_simp⟩
theorem VcR.startC (w : World) (T P : Int) (x y : Int) (a a' : Option Addr) (n c m c' : Nat) : VcR w T P a n c a' m c' x y ((w.alloc (Obj.cells #[.int .i64 T, .int .i64 P, .slice a n c, .slice a' m c'] 25)).alloc (Obj.cells #[.int .i64 x, .int .i64 y] 36)) :=
  ⟨⟨((Below.refl _ _).alloc (Nat.le_refl _) _).alloc (by simp) _, by simp; omega, by go_simp, by go_simp, by go_simp, by go_simp⟩, by simp, by go_simp, by go_simp⟩
theorem OutL.under {w0 w w' : World} {t k : Nat} {a : Option Addr} {n c : Nat} {R : Nat → Int} (h : OutL w w' t k a n c R) (hb : Below w0.heap.size w0 w) : OutL w0 w' t k a n c R := ⟨hb.trans (h.bel.mono hb.size), h.own.base hb.size⟩

set_option maxRecDepth 20000 in
set_option maxHeartbeats 8000000 in
theorem worldAt_q (T P : Int) (a : Option Addr) (n c : Nat) (U : Nat → Int) (a' : Option Addr) (m c' : Nat) (Q : Nat → Int) (x y : Int) (w : World) (h : Flat w a (n * 12) U) (h' : Flat w a' (m * 2) Q) (hn : n ≤ 1048576) (hm : m ≤ 1048576) :
    Calls Try.prog 14 #[worldW T P a n c a' m c', vv x y] w fun e w' => ∃ a0 N c0, e = .returned (.slice a0 N c0) ∧ (idsA T P n U m Q (hasAt x y U)).length = N * 1 ∧ OutL w w' 3 1 a0 N c0 (ofL (idsA T P n U m Q (hasAt x y U))) := by
  have hset := cset_map
  have hS := VcR.startB w T P x y a a' n c m c'
  go_enter Try.func14, Try.ntmps14
  go_wp2_with (go_at_call 40; refine (idsAt_q T P a n c U a' m c' Q (w.heap.size + 1) x y _ (h.below hS.wd.bel) (h'.below hS.wd.bel) hn hm hS.r0 hS.r1 hS.big).mono ?_; rintro e w2 ⟨a0, N, c0, rfl, hN, hO⟩)
  go_ret
  exact ⟨_, _, _, rfl, hN, hO.under hS.wd.bel⟩
theorem bods_of_world {T P : Int} {n m : Nat} {U Q : Nat → Int} (h : worldB T P n U m Q = true) : bodsB n U = true := by
  unfold worldB at h
  simp only [Bool.and_eq_true] at h
  exact h.2.2.1
theorem hasAt_no {x y : Int} {U : Nat → Int} (h : inB 2560000 x y = false) (k : Nat) : hasAt x y U k = false := by unfold hasAt shV; rw [h]; simp
theorem l3Has_k (k g h x y u v : Int) (b : Bool) (w : World) (s : shB k g h = true) (p : inB 2560000 x y = true) (q : inB 2560000 u v = true) (e : shV k g h x y u v = b) :
    Calls Try.prog 39 #[s3 k g h, vv x y, vv u v] w fun e w' => e = .returned (.bool b) ∧ Below w.heap.size w w' := by
  unfold shV at e
  rw [s, p, q] at e
  simp only [Bool.true_and] at e
  have hp := inB_of p
  have hq := inB_of q
  rcases shB_two s with ⟨rfl, rfl, a1, a2⟩ | ⟨rfl, a1, a2, a3, a4⟩
  · rw [← hasV_r] at e; subst e; exact l3Has_r g x y u v w a1 a2 hp.1 hp.2 (by omega) (by omega)
  · unfold hasV at e; rw [if_pos rfl] at e; subst e; exact l3Has_b g h x y u v w a1 a2 a3 a4 hp.1 hp.2 (by omega) (by omega)

set_option maxRecDepth 20000 in
set_option maxHeartbeats 8000000 in
theorem sWorldAt_q (T P : Int) (a : Option Addr) (n c : Nat) (U : Nat → Int) (a' : Option Addr) (m c' : Nat) (Q : Nat → Int) (x y : Int) (w : World) (h : Flat w a (n * 12) U) (h' : Flat w a' (m * 2) Q) (hn : n ≤ 1048576) (hm : m ≤ 1048576) :
    Calls Try.prog 12 #[worldW T P a n c a' m c', vv x y] w fun e w' => ∃ a0 N c0, e = .returned (.slice a0 N c0) ∧ (idsA T P n U m Q (hasAt x y U)).length = N * 1 ∧ OutL w w' 3 1 a0 N c0 (ofL (idsA T P n U m Q (hasAt x y U))) := by
  have hset := cset_map
  have hS := VcR.startB w T P x y a a' n c m c'
  have hN := LsV.newAt ((w.alloc (Obj.cells #[.int .i64 T, .int .i64 P, .slice a n c, .slice a' m c'] 31)).alloc (Obj.cells #[.int .i64 x, .int .i64 y] 39)) 3 1 (w.heap.size + 1 + 1) (by simp)
  have hE := hN.bel
  cases hok : worldB T P n U m Q with
  | false =>
    unfold idsA
    rw [hok, cond_false]
    go_enter Try.func12, Try.ntmps12
    go_wp2_with (go_at_call 8; refine (sWorldOk_q T P a n c U a' m c' Q _ (h.below (hS.on hE).wd.bel) (h'.below (hS.on hE).wd.bel) hn hm false hok).mono ?_; rintro e w1 ⟨rfl, hb1⟩; have hB0 := (hS.on hE).on hb1; have r0 := hB0.r0; have r1 := hB0.r1)
    go_ret
    exact ⟨_, _, _, rfl, by simp, (hN.below hb1).out hS.wd.bel⟩
  | true =>
    unfold idsA
    rw [hok]
    cases hck : inB 2560000 x y with
    | false =>
      rw [cond_true, idL_none (hasAt_no hck)]
      go_enter Try.func12, Try.ntmps12
      go_wp2_with (first
        | (go_at_call 8; refine (sWorldOk_q T P a n c U a' m c' Q _ (h.below (hS.on hE).wd.bel) (h'.below (hS.on hE).wd.bel) hn hm true hok).mono ?_; rintro e w1 ⟨rfl, hb1⟩; have hB0 := (hS.on hE).on hb1; have r0 := hB0.r0; have r1 := hB0.r1)
        | (go_at_call 38; refine (l3Place_q _ _ _ _ hck).mono ?_; rintro e w3 ⟨rfl, hb3⟩))
      go_ret
      exact ⟨_, _, _, rfl, by simp, ((hN.below hb1).below hb3).out hS.wd.bel⟩
    | true =>
      go_enter Try.func12, Try.ntmps12
      go_upto_region 4 with (first
        | (go_at_call 8; refine (sWorldOk_q T P a n c U a' m c' Q _ (h.below (hS.on hE).wd.bel) (h'.below (hS.on hE).wd.bel) hn hm true hok).mono ?_; rintro e w1 ⟨rfl, hb1⟩; have hB0 := (hS.on hE).on hb1; have r0 := hB0.r0; have r1 := hB0.r1)
        | (go_at_call 38; refine (l3Place_q _ _ _ _ hck).mono ?_; rintro e w3 ⟨rfl, hb3⟩))
      have hL0 := (hN.below hb1).below hb3
      clear hb1 hb3 hB0 r0 r1 hE hN
      have hwb := bods_of_world hok
      generalize ((w.alloc (Obj.cells #[.int .i64 T, .int .i64 P, .slice a n c, .slice a' m c'] 31)).alloc (Obj.cells #[.int .i64 x, .int .i64 y] 39)) = wb at hS hL0 ⊢
      go_wp2
      go_loopw [5, 6] (fun s5 s wr => ∃ (k : Nat) (aL : Option Addr) (mL cL : Nat), k ≤ n ∧ s = .int .i64 (k : Int) ∧ s5 = .slice aL mL cL ∧ LsV wb wr 3 1 aL mL cL (idL (hasAt x y U) U k)) (fun _ s _ => n - (intOf s).toNat)
      case atStart => exact ⟨0, _, _, _, Nat.zero_le _, rfl, rfl, hL0⟩
      case round =>
        clear hL0
        obtain ⟨k, aL, mL, cL, hk, rfl, rfl, hL⟩ := hrel
        have hB := hS.on hL.bel
        have hbig := hB.big
        have z2 := hB.wd.c2
        by_cases hlt : k < n
        · have hkn : (k : Int) < (n : Int) := by omega
          obtain ⟨hs1, hs2⟩ := bods_sh hwb hlt
          obtain ⟨b, o, rfl, hbl, hc⟩ := (h.below hB.wd.bel) (by omega)
          have c0 := hc (k * 12) (by omega)
          have c1 := hc (k * 12 + 1) (by omega)
          have c2 := hc (k * 12 + 2) (by omega)
          have c3 := hc (k * 12 + 3) (by omega)
          have c4 := hc (k * 12 + 4) (by omega)
          have c5 := hc (k * 12 + 5) (by omega)
          simp only [← Nat.add_assoc] at c0 c1 c2 c3 c4 c5
          clear hc
          have r0 := hB.r0
          have r1 := hB.r1
          have hmk := hL.len
          have hmj := idL_len (hasAt x y U) U k
          obtain ⟨vb, hvp⟩ : ∃ vb, hasAt x y U k = vb := ⟨_, rfl⟩
          have hv := hvp
          unfold hasAt at hv
          go_upto_region 7 with fail
          go_cut [37] (fun s wd => s = .bool vb ∧ Below wr.heap.size wr wd)
          case first =>
            refine wp_region_held_drew (S := fun w' => w'.cell? ⟨w.heap.size + 1, 0, none⟩ = some (.int .i64 x) ∧ w'.cell? ⟨w.heap.size + 1, 1, none⟩ = some (.int .i64 y) ∧ w'.cell? ⟨w.heap.size, 2, none⟩ = some (.slice (some ⟨b, o, none⟩) n c) ∧ w'.cell? ⟨b, o + k * 12 + 1, none⟩ = some (.int .i64 (U (k * 12 + 1))) ∧ w'.cell? ⟨b, o + k * 12 + 2, none⟩ = some (.int .i64 (U (k * 12 + 2))) ∧ w'.cell? ⟨b, o + k * 12 + 3, none⟩ = some (.int .i64 (U (k * 12 + 3))) ∧ w'.cell? ⟨b, o + k * 12 + 4, none⟩ = some (.int .i64 (U (k * 12 + 4))) ∧ w'.cell? ⟨b, o + k * 12 + 5, none⟩ = some (.int .i64 (U (k * 12 + 5)))) (by kernel_rfl) ?_ (fun hHeld => ?_)
            · (try dsimp only)
              (first | (go_simp; done) | (go_keep; done))
            refine tq 0 hHeld ?_
            refine tq 1 hHeld ?_
            refine tq 2 hHeld ?_
            refine tq 3 hHeld ?_
            refine tq 4 hHeld ?_
            refine tq 5 hHeld ?_
            refine tq 6 hHeld ?_
            refine tq 7 hHeld ?_
            refine tq 8 hHeld ?_
            refine tq 9 hHeld ?_
            refine tq 10 hHeld ?_
            refine tq 11 hHeld ?_
            refine tq 12 hHeld ?_
            (refine tc 13 fun K hK => ?_; go_simp; (go_at_call 39; refine (l3Has_k _ _ _ _ _ _ _ vb _ hs1 hs2 hck hv).mono ?_; rintro e w14 ⟨rfl, hb14⟩; obtain ⟨hc14, hf14⟩ := bcell hb14; have hz14 := hb14.size; (try simp only [World.size_drew, World.size_alloc, World.size_setCell] at hc14 hf14 hz14); have hk14x0 := fun o => hc14 (w.heap.size) o (by omega); have hj14x0 := fun o => hf14 (w.heap.size) o (by omega); have hq14x0 : w.heap.size < w14.heap.size := (by omega); have hk14x1 := fun o => hc14 (w.heap.size + 1) o (by omega); have hj14x1 := fun o => hf14 (w.heap.size + 1) o (by omega); have hq14x1 : w.heap.size + 1 < w14.heap.size := (by omega); have hk14x2 := fun o => hc14 (b) o (by omega); have hj14x2 := fun o => hf14 (b) o (by omega); have hq14x2 : b < w14.heap.size := (by omega); clear hc14 hf14); (try go_wp2_with fail); refine tr hK (fun hHeld => ?_); clear hK K)
            refine wpAnyH_done (by kernel_rfl) ?_ _
            go_wp2_with fail
            go_meet
            exact ⟨rfl, by repeat (first | with_reducible apply Below.refl | (with_reducible apply Below.setCell; rotate_left; focus (first | omega | (simp; done) | (simp; omega))) | (with_reducible apply Below.alloc; rotate_left; focus (first | omega | (simp; done) | (simp; omega))) | with_reducible apply Below.drew | with_reducible apply belowDrewN | (with_reducible apply Below.trans; rotate_left; with_reducible apply Below.mono; with_reducible assumption; focus (first | omega | (simp; done) | (simp; omega))))⟩
          case rest =>
          obtain ⟨rfl, hbd⟩ := hcut
          have hL2 := hL.below hbd
          have hB2 := hB.on hbd
          have x0 := (hbd.cell (p := ⟨b, o + k * 12, none⟩) hbl).trans c0
          clear c0 c1 c2 c3 c4 c5 z2 r0 r1 hv hB hL
          have z2 := hB2.wd.c2
          have hbz := hL2.bel.size
          cases vb with
          | false =>
            go_wp2
            go_roundw
            case rel => exact ⟨k + 1, _, _, _, by omega, by go_num, rfl, by rw [idL_no hvp]; exact hL2⟩
            case measure => simp [intOf]; omega
          | true =>
            go_wp2_with (refine wpList_app rfl _ _ _ rfl wb.heap.size 3 1 8 (.int .i64 0) Try.underlying37 (by kernel_rfl) (by rfl) (by omega) (.slice aL mL cL) mL (ofL (idL (hasAt x y U) U k)) rfl (hL2.below ((Below.refl _ _).alloc (Nat.le_refl _) _)).own _ 1 _ (ofL [U (k * 12)]) rfl (flat1 _ _ _) (by unfold maxLen; omega) (by omega) (by simp only [World.size_alloc]; omega) ?_; intro a3 c3 w3 ho3 hg3)
            have hP := (hL2.below ((Below.refl _ _).alloc (Nat.le_refl _) _)).push (x := [U (k * 12)]) rfl hg3 ho3
            go_roundw
            case rel => exact ⟨k + 1, _, _, _, by omega, by go_num, rfl, by rw [idL_yes hvp]; exact hP⟩
            case measure => simp [intOf]; omega
        · obtain rfl : k = n := by omega
          go_wp2
          go_ret
          exact ⟨_, _, _, rfl, hL.len, hL.out hS.wd.bel⟩
end Go.Proofs.Ytgcobcmpkbcfoaa
namespace Go.Proofs.Ytgcobcmpkbcfoaa
open Go.RowKit
set_option linter.unusedVariables false
set_option linter.unusedSimpArgs false
theorem RyR.startB (w : World) (T P : Int) (x y u v : Int) (a a' : Option Addr) (n c m c' : Nat) : RyR w T P a n c a' m c' x y u v ((w.alloc (Obj.cells #[.int .i64 T, .int .i64 P, .slice a n c, .slice a' m c'] 31)).alloc (Obj.cells #[.int .i64 x, .int .i64 y, .int .i64 u, .int .i64 v] 49)) :=
  ⟨⟨((Below.refl _ _).alloc (Nat.le_refl _) _).alloc (by simp) _, by simp; omega, by go_simp, by go_simp, by go_simp, by go_simp⟩, by simp, by go_simp, by go_simp, by go_simp, by go_simp⟩
theorem RyR.startC (w : World) (T P : Int) (x y u v : Int) (a a' : Option Addr) (n c m c' : Nat) : RyR w T P a n c a' m c' x y u v ((w.alloc (Obj.cells #[.int .i64 T, .int .i64 P, .slice a n c, .slice a' m c'] 25)).alloc (Obj.cells #[.int .i64 x, .int .i64 y, .int .i64 u, .int .i64 v] 46)) :=
  ⟨⟨((Below.refl _ _).alloc (Nat.le_refl _) _).alloc (by simp) _, by simp; omega, by go_simp, by go_simp, by go_simp, by go_simp⟩, by simp, by go_simp, by go_simp, by go_simp, by go_simp⟩

set_option maxRecDepth 20000 in
set_option maxHeartbeats 8000000 in
theorem worldIn_q (T P : Int) (a : Option Addr) (n c : Nat) (U : Nat → Int) (a' : Option Addr) (m c' : Nat) (Q : Nat → Int) (x y u v : Int) (w : World) (h : Flat w a (n * 12) U) (h' : Flat w a' (m * 2) Q) (hn : n ≤ 1048576) (hm : m ≤ 1048576) :
    Calls Try.prog 21 #[worldW T P a n c a' m c', b4 x y u v] w fun e w' => ∃ a0 N c0, e = .returned (.slice a0 N c0) ∧ (idsA T P n U m Q (meetAt x y u v U)).length = N * 1 ∧ OutL w w' 3 1 a0 N c0 (ofL (idsA T P n U m Q (meetAt x y u v U))) := by
  have hset := cset_map
  have hS := RyR.startB w T P x y u v a a' n c m c'
  go_enter Try.func21, Try.ntmps21
  go_wp2_with (go_at_call 40; refine (idsIn_q T P a n c U a' m c' Q (w.heap.size + 1) x y u v _ (h.below hS.wd.bel) (h'.below hS.wd.bel) hn hm hS.r0 hS.r1 hS.r2 hS.r3 hS.big).mono ?_; rintro e w2 ⟨a0, N, c0, rfl, hN, hO⟩)
  go_ret
  exact ⟨_, _, _, rfl, hN, hO.under hS.wd.bel⟩
theorem meetAt_no {x y u v : Int} {U : Nat → Int} (h : bokB x y u v = false) (k : Nat) : meetAt x y u v U k = false := by unfold meetAt; rw [h]; simp
theorem sBoxOk_q (x y u v : Int) (b : Bool) (w : World) (e : bokB x y u v = b) : Calls Try.prog 45 #[b4 x y u v] w fun e w' => e = .returned (.bool b) ∧ Below w.heap.size w w' := by subst e; exact sBoxOk_any x y u v w
theorem l3Meets_q (a b c d r s t u : Int) (q : Bool) (w : World) (e : (leB a b t u && leB r s c d) = q) : Calls Try.prog 46 #[b4 a b c d, b4 r s t u] w fun e w' => e = .returned (.bool q) ∧ Below w.heap.size w w' := by subst e; exact l3Meets_any a b c d r s t u w
theorem l3Bounds_k (k g h x y : Int) (w : World) (s : shB k g h = true) (p : inB 2560000 x y = true) :
    Calls Try.prog 47 #[s3 k g h, vv x y] w fun e w' => e = .returned (b4 (sbA k g h x y) (sbB k g h x y) (sbC k g h x y) (sbD k g h x y)) ∧ Below w.heap.size w w' := by
  unfold sbA sbB sbC sbD
  rw [s, p]
  have hp := inB_of p
  rcases shB_two s with ⟨rfl, rfl, a1, a2⟩ | ⟨rfl, a1, a2, a3, a4⟩
  · exact l3Bounds_r g x y w a1 a2 hp.1 hp.2
  · exact l3Bounds_b g h x y w a1 a2 a3 a4 hp.1 hp.2
theorem sb_ok {k g h x y : Int} (s : shB k g h = true) (p : inB 2560000 x y = true) : bokB (sbA k g h x y) (sbB k g h x y) (sbC k g h x y) (sbD k g h x y) = true := by
  unfold sbA sbB sbC sbD bokB vokB leB
  rw [s, p]
  have hp := inB_of p
  rcases shB_two s with ⟨rfl, rfl, a1, a2⟩ | ⟨rfl, a1, a2, a3, a4⟩ <;> simp [bb, hh] <;> omega

set_option maxRecDepth 20000 in
set_option maxHeartbeats 8000000 in
theorem sWorldIn_q (T P : Int) (a : Option Addr) (n c : Nat) (U : Nat → Int) (a' : Option Addr) (m c' : Nat) (Q : Nat → Int) (x y u v : Int) (w : World) (h : Flat w a (n * 12) U) (h' : Flat w a' (m * 2) Q) (hn : n ≤ 1048576) (hm : m ≤ 1048576) :
    Calls Try.prog 19 #[worldW T P a n c a' m c', b4 x y u v] w fun e w' => ∃ a0 N c0, e = .returned (.slice a0 N c0) ∧ (idsA T P n U m Q (meetAt x y u v U)).length = N * 1 ∧ OutL w w' 3 1 a0 N c0 (ofL (idsA T P n U m Q (meetAt x y u v U))) := by
  have hset := cset_map
  have hS := RyR.startB w T P x y u v a a' n c m c'
  have hN := LsV.newAt ((w.alloc (Obj.cells #[.int .i64 T, .int .i64 P, .slice a n c, .slice a' m c'] 31)).alloc (Obj.cells #[.int .i64 x, .int .i64 y, .int .i64 u, .int .i64 v] 49)) 3 1 (w.heap.size + 1 + 1) (by simp)
  have hE := hN.bel
  cases hok : worldB T P n U m Q with
  | false =>
    unfold idsA
    rw [hok, cond_false]
    go_enter Try.func19, Try.ntmps19
    go_wp2_with (go_at_call 8; refine (sWorldOk_q T P a n c U a' m c' Q _ (h.below (hS.on hE).wd.bel) (h'.below (hS.on hE).wd.bel) hn hm false hok).mono ?_; rintro e w1 ⟨rfl, hb1⟩; have hB0 := (hS.on hE).on hb1; have r0 := hB0.r0; have r1 := hB0.r1; have r2 := hB0.r2; have r3 := hB0.r3)
    go_ret
    exact ⟨_, _, _, rfl, by simp, (hN.below hb1).out hS.wd.bel⟩
  | true =>
    unfold idsA
    rw [hok]
    cases hck : bokB x y u v with
    | false =>
      rw [cond_true, idL_none (meetAt_no hck)]
      go_enter Try.func19, Try.ntmps19
      go_wp2_with (first
        | (go_at_call 8; refine (sWorldOk_q T P a n c U a' m c' Q _ (h.below (hS.on hE).wd.bel) (h'.below (hS.on hE).wd.bel) hn hm true hok).mono ?_; rintro e w1 ⟨rfl, hb1⟩; have hB0 := (hS.on hE).on hb1; have r0 := hB0.r0; have r1 := hB0.r1; have r2 := hB0.r2; have r3 := hB0.r3)
        | (go_at_call 45; refine (sBoxOk_q _ _ _ _ _ _ hck).mono ?_; rintro e w3 ⟨rfl, hb3⟩))
      go_ret
      exact ⟨_, _, _, rfl, by simp, ((hN.below hb1).below hb3).out hS.wd.bel⟩
    | true =>
      go_enter Try.func19, Try.ntmps19
      go_upto_region 4 with (first
        | (go_at_call 8; refine (sWorldOk_q T P a n c U a' m c' Q _ (h.below (hS.on hE).wd.bel) (h'.below (hS.on hE).wd.bel) hn hm true hok).mono ?_; rintro e w1 ⟨rfl, hb1⟩; have hB0 := (hS.on hE).on hb1; have r0 := hB0.r0; have r1 := hB0.r1; have r2 := hB0.r2; have r3 := hB0.r3)
        | (go_at_call 45; refine (sBoxOk_q _ _ _ _ _ _ hck).mono ?_; rintro e w3 ⟨rfl, hb3⟩))
      have hL0 := (hN.below hb1).below hb3
      clear hb1 hb3 hB0 r0 r1 r2 r3 hE hN
      have hwb := bods_of_world hok
      generalize ((w.alloc (Obj.cells #[.int .i64 T, .int .i64 P, .slice a n c, .slice a' m c'] 31)).alloc (Obj.cells #[.int .i64 x, .int .i64 y, .int .i64 u, .int .i64 v] 49)) = wb at hS hL0 ⊢
      go_wp2
      go_loopw [5, 6] (fun s5 s wr => ∃ (k : Nat) (aL : Option Addr) (mL cL : Nat), k ≤ n ∧ s = .int .i64 (k : Int) ∧ s5 = .slice aL mL cL ∧ LsV wb wr 3 1 aL mL cL (idL (meetAt x y u v U) U k)) (fun _ s _ => n - (intOf s).toNat)
      case atStart => exact ⟨0, _, _, _, Nat.zero_le _, rfl, rfl, hL0⟩
      case round =>
        clear hL0
        obtain ⟨k, aL, mL, cL, hk, rfl, rfl, hL⟩ := hrel
        have hB := hS.on hL.bel
        have hbig := hB.big
        have z2 := hB.wd.c2
        by_cases hlt : k < n
        · have hkn : (k : Int) < (n : Int) := by omega
          obtain ⟨hs1, hs2⟩ := bods_sh hwb hlt
          obtain ⟨b, o, rfl, hbl, hc⟩ := (h.below hB.wd.bel) (by omega)
          have c0 := hc (k * 12) (by omega)
          have c1 := hc (k * 12 + 1) (by omega)
          have c2 := hc (k * 12 + 2) (by omega)
          have c3 := hc (k * 12 + 3) (by omega)
          have c4 := hc (k * 12 + 4) (by omega)
          have c5 := hc (k * 12 + 5) (by omega)
          simp only [← Nat.add_assoc] at c0 c1 c2 c3 c4 c5
          clear hc
          have r0 := hB.r0
          have r1 := hB.r1
          have r2 := hB.r2
          have r3 := hB.r3
          have hmk := hL.len
          have hmj := idL_len (meetAt x y u v U) U k
          obtain ⟨vb, hvp⟩ : ∃ vb, meetAt x y u v U k = vb := ⟨_, rfl⟩
          have hv := hvp
          unfold meetAt sbX at hv
          rw [sb_ok hs1 hs2, hck] at hv
          simp only [Bool.true_and] at hv
          go_upto_region 7 with fail
          go_cut [38] (fun s wd => s = .bool vb ∧ Below wr.heap.size wr wd)
          case first =>
            refine wp_region_held_drew (S := fun w' => w'.cell? ⟨w.heap.size + 1, 0, none⟩ = some (.int .i64 x) ∧ w'.cell? ⟨w.heap.size + 1, 1, none⟩ = some (.int .i64 y) ∧ w'.cell? ⟨w.heap.size + 1, 2, none⟩ = some (.int .i64 u) ∧ w'.cell? ⟨w.heap.size + 1, 3, none⟩ = some (.int .i64 v) ∧ w'.cell? ⟨w.heap.size, 2, none⟩ = some (.slice (some ⟨b, o, none⟩) n c) ∧ w'.cell? ⟨b, o + k * 12 + 1, none⟩ = some (.int .i64 (U (k * 12 + 1))) ∧ w'.cell? ⟨b, o + k * 12 + 2, none⟩ = some (.int .i64 (U (k * 12 + 2))) ∧ w'.cell? ⟨b, o + k * 12 + 3, none⟩ = some (.int .i64 (U (k * 12 + 3))) ∧ w'.cell? ⟨b, o + k * 12 + 4, none⟩ = some (.int .i64 (U (k * 12 + 4))) ∧ w'.cell? ⟨b, o + k * 12 + 5, none⟩ = some (.int .i64 (U (k * 12 + 5)))) (by kernel_rfl) ?_ (fun hHeld => ?_)
            · (try dsimp only)
              (first | (go_simp; done) | (go_keep; done))
            refine tq 0 hHeld ?_
            refine tq 1 hHeld ?_
            refine tq 2 hHeld ?_
            refine tq 3 hHeld ?_
            refine tq 4 hHeld ?_
            refine tq 5 hHeld ?_
            refine tq 6 hHeld ?_
            refine tq 7 hHeld ?_
            refine tq 8 hHeld ?_
            refine tq 9 hHeld ?_
            refine tq 10 hHeld ?_
            refine tq 11 hHeld ?_
            refine tq 13 hHeld ?_
            (refine tc 12 fun K hK => ?_; go_simp; (go_at_call 47; refine (l3Bounds_k _ _ _ _ _ _ hs1 hs2).mono ?_; rintro e w14 ⟨rfl, hb14⟩; obtain ⟨hc14, hf14⟩ := bcell hb14; have hz14 := hb14.size; (try simp only [World.size_drew, World.size_alloc, World.size_setCell] at hc14 hf14 hz14); have hk14x0 := fun o => hc14 (w.heap.size) o (by omega); have hj14x0 := fun o => hf14 (w.heap.size) o (by omega); have hq14x0 : w.heap.size < w14.heap.size := (by omega); have hk14x1 := fun o => hc14 (w.heap.size + 1) o (by omega); have hj14x1 := fun o => hf14 (w.heap.size + 1) o (by omega); have hq14x1 : w.heap.size + 1 < w14.heap.size := (by omega); have hk14x2 := fun o => hc14 (b) o (by omega); have hj14x2 := fun o => hf14 (b) o (by omega); have hq14x2 : b < w14.heap.size := (by omega); clear hc14 hf14); (try go_wp2_with fail); refine tr hK (fun hHeld => ?_); clear hK K)
            (refine tc 14 fun K hK => ?_; go_simp; (go_at_call 46; refine (l3Meets_q _ _ _ _ _ _ _ _ vb _ hv).mono ?_; rintro e w15 ⟨rfl, hb15⟩; obtain ⟨hc15, hf15⟩ := bcell hb15; have hz15 := hb15.size; (try simp only [World.size_drew, World.size_alloc, World.size_setCell] at hc15 hf15 hz15); have hk15x0 := fun o => hc15 (w.heap.size) o (by omega); have hj15x0 := fun o => hf15 (w.heap.size) o (by omega); have hq15x0 : w.heap.size < w15.heap.size := (by omega); have hk15x1 := fun o => hc15 (w.heap.size + 1) o (by omega); have hj15x1 := fun o => hf15 (w.heap.size + 1) o (by omega); have hq15x1 : w.heap.size + 1 < w15.heap.size := (by omega); have hk15x2 := fun o => hc15 (b) o (by omega); have hj15x2 := fun o => hf15 (b) o (by omega); have hq15x2 : b < w15.heap.size := (by omega); clear hc15 hf15); (try go_wp2_with fail); refine tr hK (fun hHeld => ?_); clear hK K)
            refine wpAnyH_done (by kernel_rfl) ?_ _
            go_wp2_with fail
            go_meet
            exact ⟨rfl, by repeat (first | with_reducible apply Below.refl | (with_reducible apply Below.setCell; rotate_left; focus (first | omega | (simp; done) | (simp; omega))) | (with_reducible apply Below.alloc; rotate_left; focus (first | omega | (simp; done) | (simp; omega))) | with_reducible apply Below.drew | with_reducible apply belowDrewN | (with_reducible apply Below.trans; rotate_left; with_reducible apply Below.mono; with_reducible assumption; focus (first | omega | (simp; done) | (simp; omega))))⟩
          case rest =>
          obtain ⟨rfl, hbd⟩ := hcut
          have hL2 := hL.below hbd
          have hB2 := hB.on hbd
          have x0 := (hbd.cell (p := ⟨b, o + k * 12, none⟩) hbl).trans c0
          clear c0 c1 c2 c3 c4 c5 z2 r0 r1 r2 r3 hv hB hL
          have z2 := hB2.wd.c2
          have hbz := hL2.bel.size
          cases vb with
          | false =>
            go_wp2
            go_roundw
            case rel => exact ⟨k + 1, _, _, _, by omega, by go_num, rfl, by rw [idL_no hvp]; exact hL2⟩
            case measure => simp [intOf]; omega
          | true =>
            go_wp2_with (refine wpList_app rfl _ _ _ rfl wb.heap.size 3 1 8 (.int .i64 0) Try.underlying37 (by kernel_rfl) (by rfl) (by omega) (.slice aL mL cL) mL (ofL (idL (meetAt x y u v U) U k)) rfl (hL2.below ((Below.refl _ _).alloc (Nat.le_refl _) _)).own _ 1 _ (ofL [U (k * 12)]) rfl (flat1 _ _ _) (by unfold maxLen; omega) (by omega) (by simp only [World.size_alloc]; omega) ?_; intro a3 c3 w3 ho3 hg3)
            have hP := (hL2.below ((Below.refl _ _).alloc (Nat.le_refl _) _)).push (x := [U (k * 12)]) rfl hg3 ho3
            go_roundw
            case rel => exact ⟨k + 1, _, _, _, by omega, by go_num, rfl, by rw [idL_yes hvp]; exact hP⟩
            case measure => simp [intOf]; omega
        · obtain rfl : k = n := by omega
          go_wp2
          go_ret
          exact ⟨_, _, _, rfl, hL.len, hL.out hS.wd.bel⟩
end Go.Proofs.Ytgcobcmpkbcfoaa
namespace Go.Proofs.Ytgcobcmpkbcfoaa
open Go.RowKit
set_option linter.unusedVariables false
set_option linter.unusedSimpArgs false

theorem toVecB_any (x y : Int) (w : World) :
    Calls Try.prog 13 #[vv x y] w fun e w' => e = .returned (vv x y) ∧ Below w.heap.size w w' := by
  have hset := cset_map
  go_enter Try.func13, Try.ntmps13
  go_wp2
  exact bodyPost_ret (v := vv x y) (by simp [results, Try.results13, go_sem, *]) rfl ⟨rfl, by repeat (first | with_reducible apply Below.refl | (with_reducible apply Below.setCell; rotate_left; focus (first | omega | (simp; done) | (simp; omega))) | (with_reducible apply Below.alloc; rotate_left; focus (first | omega | (simp; done) | (simp; omega))) | with_reducible apply Below.drew | with_reducible apply belowDrewN | (with_reducible apply Below.trans; rotate_left; with_reducible apply Below.mono; with_reducible assumption; focus (first | omega | (simp; done) | (simp; omega))))⟩

set_option maxHeartbeats 6000000 in
theorem toBox_any (a b c d : Int) (w : World) :
    Calls Try.prog 20 #[b4 a b c d] w fun e w' => e = .returned (b4 a b c d) ∧ Below w.heap.size w w' := by
  have hset := cset_map
  go_enter Try.func20, Try.ntmps20
  go_wp2_with (go_at_call 13; refine (toVecB_any _ _ _).mono ?_; rintro e w1 ⟨rfl, hb1⟩; obtain ⟨hc1, hf1⟩ := bcell hb1; have hl1 := blt hb1; have hz1 := hb1.size; (try simp only [World.size_drew, World.size_alloc, World.size_setCell] at hc1 hf1 hl1 hz1); (try have hq1x0 : w.heap.size < w1.heap.size := (by omega)); (try have hq1x1 : w.heap.size + 1 < w1.heap.size := (by omega)); (try have hq1x2 : w.heap.size + 1 + 1 < w1.heap.size := (by omega)))
  exact bodyPost_ret (v := b4 a b c d) (by simp [results, Try.results20, go_sem, *]) rfl ⟨rfl, by repeat (first | with_reducible apply Below.refl | (with_reducible apply Below.setCell; rotate_left; focus (first | omega | (simp; done) | (simp; omega))) | (with_reducible apply Below.alloc; rotate_left; focus (first | omega | (simp; done) | (simp; omega))) | with_reducible apply Below.drew | with_reducible apply belowDrewN | (with_reducible apply Below.trans; rotate_left; with_reducible apply Below.mono; with_reducible assumption; focus (first | omega | (simp; done) | (simp; omega))))⟩

end Go.Proofs.Ytgcobcmpkbcfoaa
namespace Go.Proofs.Ytgcobcmpkbcfoaa
open Go.RowKit
set_option linter.unusedVariables false
set_option linter.unusedSimpArgs false
theorem RyR.fr {X : Nat → Prop} {w wr w' : World} {T P x y u v : Int} {a a' : Option Addr} {n c m c' : Nat} (h : RyR w T P a n c a' m c' x y u v wr) (hs : Fr X wr w') (hX : ∀ b, X b → w.heap.size + 1 < b) : RyR w T P a n c a' m c' x y u v w' := by
  have hb := h.big
  have n0 : ¬ X w.heap.size := fun x => by have := hX _ x; omega
  have n1 : ¬ X (w.heap.size + 1) := fun x => by have := hX _ x; omega
  have k0 := fun j => hs.cell (p := ⟨w.heap.size, j, none⟩) (by simp; omega) n0
  have k1 := fun j => hs.cell (p := ⟨w.heap.size + 1, j, none⟩) hb n1
  exact ⟨⟨h.wd.bel.trans (hs.below (by omega) (fun b x => by have := hX b x; omega)), Nat.lt_of_lt_of_le h.wd.big hs.size, (k0 0).trans h.wd.c0, (k0 1).trans h.wd.c1, (k0 2).trans h.wd.c2, (k0 3).trans h.wd.c3⟩, Nat.lt_of_lt_of_le hb hs.size, (k1 0).trans h.r0, (k1 1).trans h.r1, (k1 2).trans h.r2, (k1 3).trans h.r3⟩
set_option maxRecDepth 20000 in
set_option maxHeartbeats 8000000 in
theorem fnExactWorldIn_walk (T P : Int) (a : Option Addr) (n c : Nat) (U : Nat → Int) (a' : Option Addr) (m c' : Nat) (Q : Nat → Int) (x y u v : Int) (w : World) (h : Flat w a (n * 12) U) (h' : Flat w a' (m * 2) Q) (hn : (n : Int) ≤ 9223372036854775807) (hm : (m : Int) ≤ 9223372036854775807) :
    Calls Try.prog 5 #[worldW T P a n c a' m c', b4 x y u v] w fun e w' => e = .returned (.bool true) ∧ Below w.heap.size w w' := by
  have hset := cset_map
  by_cases h20 : n + m ≤ 1048576
  · obtain ⟨N, hN⟩ : ∃ N, (idsA T P n U m Q (meetAt x y u v U)).length = N * 1 := ⟨_, (Nat.mul_one _).symm⟩
    have hN20 : N ≤ 1048576 := by have := idsA_len T P n U m Q (meetAt x y u v U); omega
    obtain ⟨R, hR⟩ : ∃ R, ofL (idsA T P n U m Q (meetAt x y u v U)) = R := ⟨_, rfl⟩
    have hR1 : Shut (ofL (idsA T P n U m Q (meetAt x y u v U)) = R) := hR
    clear hR
    go_enter Try.func5, Try.ntmps5
    go_upto_region 2 with fail
    go_cut [5] (fun s wc => ∃ z : Int, s = .int .i64 z ∧ 0 ≤ z ∧ RyR w T P a n c a' m c' x y u v wc)
    case first =>
      go_wp2_with (go_at_call 7; refine (szWorld_any T P a n c a' m c' _ hn hm).mono ?_; rintro e w1 ⟨⟨z, rfl, hz1, hz2, hz3⟩, hb1⟩)
      go_meet
      exact ⟨z, rfl, hz1.2 h20, (RyR.startC w T P x y u v a a' n c m c').on hb1⟩
    case rest =>
    obtain ⟨z, rfl, hz, hB⟩ := hcut
    have hz' : ¬ z < 0 := by omega
    have z0 := hB.wd.c0
    have z1 := hB.wd.c1
    have z2 := hB.wd.c2
    have z3 := hB.wd.c3
    have hbig := hB.big
    have y0 := hB.r0
    have y1 := hB.r1
    have y2 := hB.r2
    have y3 := hB.r3
    go_upto_region 5 with fail
    go_cut [6] (fun s wc => ∃ aw cw lw hw, s = .slice aw N cw ∧ w.heap.size + 1 < lw ∧ lw ≤ hw ∧ RyR w T P a n c a' m c' x y u v wc ∧ Lv wc lw hw 3 1 aw N cw R)
    case first =>
      refine wp_region_held_drew (S := fun w' => w'.cell? ⟨w.heap.size, 0, none⟩ = some (.int .i64 T) ∧ w'.cell? ⟨w.heap.size, 1, none⟩ = some (.int .i64 P) ∧ w'.cell? ⟨w.heap.size, 2, none⟩ = some (.slice a n c) ∧ w'.cell? ⟨w.heap.size, 3, none⟩ = some (.slice a' m c') ∧ w'.cell? ⟨w.heap.size + 1, 0, none⟩ = some (.int .i64 x) ∧ w'.cell? ⟨w.heap.size + 1, 1, none⟩ = some (.int .i64 y) ∧ w'.cell? ⟨w.heap.size + 1, 2, none⟩ = some (.int .i64 u) ∧ w'.cell? ⟨w.heap.size + 1, 3, none⟩ = some (.int .i64 v)) (by kernel_rfl) ?_ (fun hHeld => ?_)
      · (try dsimp only)
        (first | (go_simp; done) | (go_keep; done))
      refine tq 0 hHeld ?_
      refine tq 2 hHeld ?_
      (refine tc 1 fun K hK => ?_; go_simp; (go_at_call 9; refine (toWorld_any T P a n c U a' m c' Q _ (h.below hB.wd.bel.drew) (h'.below hB.wd.bel.drew) (by omega) (by omega)).mono ?_; rintro e w2 ⟨b2, d2, s2, rfl, hl2, hl2a, hl2b, hl2c, hr2, hq2, hb2⟩; have hB2 := hB.on hb2.ofDr; have m2 := hB2.wd.c0; have m2a := hB2.wd.c1; have m2b := hB2.wd.c2; have m2c := hB2.wd.c3; have bg2 := hB2.big; have r2a := hB2.r0; have r2b := hB2.r1; have r2c := hB2.r2; have r2d := hB2.r3); (try go_wp2_with fail); refine tr hK (fun hHeld => ?_); clear hK K)
      (refine tc 3 fun K hK => ?_; go_simp; (go_at_call 20; refine (toBox_any x y u v _).mono ?_; rintro e w3 ⟨rfl, hb3⟩; have hB3 := hB2.on hb3; have m3 := hB3.wd.c0; have m3a := hB3.wd.c1; have m3b := hB3.wd.c2; have m3c := hB3.wd.c3; have bg3 := hB3.big; have r3a := hB3.r0; have r3b := hB3.r1; have r3c := hB3.r2; have r3d := hB3.r3; have hr3 := hr2.below hb3; have hq3 := hq2.below hb3); (try go_wp2_with fail); refine tr hK (fun hHeld => ?_); clear hK K)
      (refine tc 4 fun K hK => ?_; go_simp; (go_at_call 19; refine (sWorldIn_q T P _ n _ U _ m _ Q x y u v _ hr3.flat hq3.flat (by omega) (by omega)).mono ?_; rintro e w4 ⟨a4, N4, c4, rfl, hN4, hO4⟩; rw [hR1.out] at hO4; obtain rfl : N4 = N := (by rw [hN] at hN4; omega); have hb4 := hO4.bel; have hB4 := hB3.on hb4; have m4 := hB4.wd.c0; have m4a := hB4.wd.c1; have m4b := hB4.wd.c2; have m4c := hB4.wd.c3; have bg4 := hB4.big; have r4a := hB4.r0; have r4b := hB4.r1; have r4c := hB4.r2; have r4d := hB4.r3); (try go_wp2_with fail); refine tr hK (fun hHeld => ?_); clear hK K)
      refine tq 5 hHeld ?_
      refine wpAnyH_done (by kernel_rfl) ?_ _
      go_wp2_with fail
      go_meet
      exact ⟨_, _, _, _, rfl, hB3.big, hO4.bel.size, hB4, hO4.lv⟩
    case rest =>
    clear hB z0 z1 z2 z3 hbig y0 y1 y2 y3
    obtain ⟨aw, cw, lw, hw, rfl, g1, g2, hB, hW⟩ := hcut
    have z0 := hB.wd.c0
    have z1 := hB.wd.c1
    have z2 := hB.wd.c2
    have z3 := hB.wd.c3
    have hbig := hB.big
    have y0 := hB.r0
    have y1 := hB.r1
    have y2 := hB.r2
    have y3 := hB.r3
    go_upto_region 6 with fail
    go_cut [7] (fun s wc => ∃ bx b d lx hx, s = .pointer (some ⟨bx, 0, none⟩) ∧ hw ≤ lx ∧ lx ≤ b ∧ b < d ∧ d < hx ∧ hx ≤ wc.heap.size ∧ RyR w T P a n c a' m c' x y u v wc ∧ Lv wc lw hw 3 1 aw N cw R ∧ Xw wc bx T P n m b d U Q)
    case first =>
      go_wp2_with (go_at_call 9; refine (toWorld_any T P a n c U a' m c' Q _ (h.below hB.wd.bel) (h'.below hB.wd.bel) (by omega) (by omega)).mono ?_; rintro e w2 ⟨b2, d2, s2, rfl, hl2, hl2a, hl2b, hl2c, hr2, hq2, hb2⟩)
      go_meet
      have hE : Below w2.heap.size w2 (w2.alloc (.cells #[.int .i64 T, .int .i64 P, .slice (some ⟨b2, 0, none⟩) n n, .slice (some ⟨d2, 0, none⟩) m m] 31)) := (Below.refl _ _).alloc (Nat.le_refl _) _
      exact ⟨_, b2, d2, _, w2.heap.size, rfl, hW.le, hl2, by omega, hl2c, by simp, (hB.on hb2).on hE, (hW.on hb2).on hE, by go_simp, by go_simp, by go_simp, by go_simp, by simp, hr2.below hE, hq2.below hE⟩
    case rest =>
    clear hB z0 z1 z2 z3 hbig y0 y1 y2 y3 hW
    obtain ⟨bx, b, d, lx, hx, rfl, g3, g4, g5, g6, g7, hB, hW, hX⟩ := hcut
    have z0 := hB.wd.c0
    have z1 := hB.wd.c1
    have z2 := hB.wd.c2
    have z3 := hB.wd.c3
    have hbig := hB.big
    have y0 := hB.r0
    have y1 := hB.r1
    have y2 := hB.r2
    have y3 := hB.r3
    have x0 := hX.c0
    have x1 := hX.c1
    have x2 := hX.c2
    have x3 := hX.c3
    have hxl := hX.lt
    go_upto_region 7 with fail
    go_cut [8] (fun s wc => ∃ ag cg lg hg, s = .slice ag N cg ∧ hx ≤ lg ∧ lg ≤ hg ∧ RyR w T P a n c a' m c' x y u v wc ∧ Lv wc lw hw 3 1 aw N cw R ∧ Xw wc bx T P n m b d U Q ∧ Lv wc lg hg 3 1 ag N cg R)
    case first =>
      refine wp_region_held_drew (S := fun w' => w'.cell? ⟨w.heap.size, 0, none⟩ = some (.int .i64 T) ∧ w'.cell? ⟨w.heap.size, 1, none⟩ = some (.int .i64 P) ∧ w'.cell? ⟨w.heap.size, 2, none⟩ = some (.slice a n c) ∧ w'.cell? ⟨w.heap.size, 3, none⟩ = some (.slice a' m c') ∧ w'.cell? ⟨w.heap.size + 1, 0, none⟩ = some (.int .i64 x) ∧ w'.cell? ⟨w.heap.size + 1, 1, none⟩ = some (.int .i64 y) ∧ w'.cell? ⟨w.heap.size + 1, 2, none⟩ = some (.int .i64 u) ∧ w'.cell? ⟨w.heap.size + 1, 3, none⟩ = some (.int .i64 v) ∧ w'.cell? ⟨bx, 0, none⟩ = some (.int .i64 T) ∧ w'.cell? ⟨bx, 1, none⟩ = some (.int .i64 P) ∧ w'.cell? ⟨bx, 2, none⟩ = some (.slice (some ⟨b, 0, none⟩) n n) ∧ w'.cell? ⟨bx, 3, none⟩ = some (.slice (some ⟨d, 0, none⟩) m m)) (by kernel_rfl) ?_ (fun hHeld => ?_)
      · (try dsimp only)
        (first | (go_simp; done) | (go_keep; done))
      refine tq 0 hHeld ?_
      refine tq 1 hHeld ?_
      (refine tc 2 fun K hK => ?_; go_simp; (go_at_call 20; refine (toBox_any x y u v _).mono ?_; rintro e w3 ⟨rfl, hb3⟩; have hB3 := hB.on hb3.ofDr; have m3 := hB3.wd.c0; have m3a := hB3.wd.c1; have m3b := hB3.wd.c2; have m3c := hB3.wd.c3; have bg3 := hB3.big; have r3a := hB3.r0; have r3b := hB3.r1; have r3c := hB3.r2; have r3d := hB3.r3; have hX3 := hX.on hb3.ofDr; have x3 := hX3.c0; have x3a := hX3.c1; have x3b := hX3.c2; have x3c := hX3.c3; have xl3 := hX3.lt); (try go_wp2_with fail); refine tr hK (fun hHeld => ?_); clear hK K)
      (refine tc 3 fun K hK => ?_; go_simp; (go_at_call 21; refine (worldIn_q T P _ n _ U _ m _ Q x y u v _ hX3.hr.flat hX3.hq.flat (by omega) (by omega)).mono ?_; rintro e w4 ⟨a4, N4, c4, rfl, hN4, hO4⟩; rw [hR1.out] at hO4; obtain rfl : N4 = N := (by rw [hN] at hN4; omega); have hb4 := hO4.bel; have hB4 := hB3.on hb4; have m4 := hB4.wd.c0; have m4a := hB4.wd.c1; have m4b := hB4.wd.c2; have m4c := hB4.wd.c3; have bg4 := hB4.big; have r4a := hB4.r0; have r4b := hB4.r1; have r4c := hB4.r2; have r4d := hB4.r3; have hX4 := hX3.on hb4; have x4 := hX4.c0; have x4a := hX4.c1; have x4b := hX4.c2; have x4c := hX4.c3; have xl4 := hX4.lt); (try go_wp2_with fail); refine tr hK (fun hHeld => ?_); clear hK K)
      refine tq 4 hHeld ?_
      refine wpAnyH_done (by kernel_rfl) ?_ _
      go_wp2_with fail
      go_meet
      have hb34 := hb3.trans (hb4.mono hb3.size)
      exact ⟨_, _, _, _, rfl, by have := hb3.size; simp at this; omega, hO4.bel.size, hB4, hW.on hb34.ofDr, hX4, hO4.lv⟩
    case rest =>
    clear hB z0 z1 z2 z3 hbig y0 y1 y2 y3 hX x0 x1 x2 x3 hxl hW g7
    obtain ⟨ag, cg, lg, hg, rfl, g8, g9, hB, hW, hX, hG⟩ := hcut
    have z0 := hB.wd.c0
    have z1 := hB.wd.c1
    have z2 := hB.wd.c2
    have z3 := hB.wd.c3
    have hbig := hB.big
    have y0 := hB.r0
    have y1 := hB.r1
    have y2 := hB.r2
    have y3 := hB.r3
    have x0 := hX.c0
    have x1 := hX.c1
    have x2 := hX.c2
    have x3 := hX.c3
    have hxl := hX.lt
    go_upto_region 8 with fail
    go_cut [32] (fun s wc => s = .bool false ∧ RyR w T P a n c a' m c' x y u v wc ∧ Lv wc lw hw 3 1 aw N cw R ∧ Xw wc bx T P n m b d U Q ∧ Lv wc lg hg 3 1 ag N cg R)
    case first =>
      go_wp2_with (go_at_call 15; refine (eqIntS_same _ _ _ _ _ R _ hG.flat hW.flat hN20).mono ?_; rintro e w8 ⟨rfl, hb8⟩)
      go_meet
      exact ⟨rfl, hB.on hb8, hW.on hb8, hX.on hb8, hG.on hb8⟩
    case rest =>
    clear hB z0 z1 z2 z3 hbig y0 y1 y2 y3 hX x0 x1 x2 x3 hxl hW hG
    obtain ⟨rfl, hB, hW, hX, hG⟩ := hcut
    have z0 := hB.wd.c0
    have z1 := hB.wd.c1
    have z2 := hB.wd.c2
    have z3 := hB.wd.c3
    have hbig := hB.big
    have y0 := hB.r0
    have y1 := hB.r1
    have y2 := hB.r2
    have y3 := hB.r3
    have x0 := hX.c0
    have x1 := hX.c1
    have x2 := hX.c2
    have x3 := hX.c3
    have hxl := hX.lt
    go_upto_region 10 with fail
    go_cut [37] (fun s wc => s = .bool false ∧ RyR w T P a n c a' m c' x y u v wc ∧ Lv wc lw hw 3 1 aw N cw R ∧ Xw wc bx T P n m b d U Q ∧ Lv wc lg hg 3 1 ag N cg R)
    case first =>
      refine wp_region_held_drew (S := fun w' => w'.cell? ⟨w.heap.size, 0, none⟩ = some (.int .i64 T) ∧ w'.cell? ⟨w.heap.size, 1, none⟩ = some (.int .i64 P) ∧ w'.cell? ⟨w.heap.size, 2, none⟩ = some (.slice a n c) ∧ w'.cell? ⟨w.heap.size, 3, none⟩ = some (.slice a' m c') ∧ w'.cell? ⟨w.heap.size + 1, 0, none⟩ = some (.int .i64 x) ∧ w'.cell? ⟨w.heap.size + 1, 1, none⟩ = some (.int .i64 y) ∧ w'.cell? ⟨w.heap.size + 1, 2, none⟩ = some (.int .i64 u) ∧ w'.cell? ⟨w.heap.size + 1, 3, none⟩ = some (.int .i64 v) ∧ w'.cell? ⟨bx, 0, none⟩ = some (.int .i64 T) ∧ w'.cell? ⟨bx, 1, none⟩ = some (.int .i64 P) ∧ w'.cell? ⟨bx, 2, none⟩ = some (.slice (some ⟨b, 0, none⟩) n n) ∧ w'.cell? ⟨bx, 3, none⟩ = some (.slice (some ⟨d, 0, none⟩) m m)) (by kernel_rfl) ?_ (fun hHeld => ?_)
      · (try dsimp only)
        (first | (go_simp; done) | (go_keep; done))
      refine tq 0 hHeld ?_
      refine tq 1 hHeld ?_
      (refine tc 2 fun K hK => ?_; go_simp; (go_at_call 9; refine (toWorld_any T P a n c U a' m c' Q _ (h.below hB.wd.bel.drew) (h'.below hB.wd.bel.drew) (by omega) (by omega)).mono ?_; rintro e w6 ⟨b6, d6, s6, rfl, hl6, hl6a, hl6b, hl6c, hr6, hq6, hb6⟩; have hB6 := hB.on hb6.ofDr; have m6 := hB6.wd.c0; have m6a := hB6.wd.c1; have m6b := hB6.wd.c2; have m6c := hB6.wd.c3; have bg6 := hB6.big; have r6a := hB6.r0; have r6b := hB6.r1; have r6c := hB6.r2; have r6d := hB6.r3; have hX6 := hX.on hb6.ofDr; have x6 := hX6.c0; have x6a := hX6.c1; have x6b := hX6.c2; have x6c := hX6.c3; have xl6 := hX6.lt); (try go_wp2_with fail); refine tr hK (fun hHeld => ?_); clear hK K)
      (refine tc 3 fun K hK => ?_; go_simp; (go_at_call 11; refine (eqWorld_same T P _ _ n _ _ U _ _ m _ _ Q _ hX6.hr.flat hr6.flat hX6.hq.flat hq6.flat (by omega) (by omega)).mono ?_; rintro e w7 ⟨rfl, hb7⟩; have hB7 := hB6.on hb7; have m7 := hB7.wd.c0; have m7a := hB7.wd.c1; have m7b := hB7.wd.c2; have m7c := hB7.wd.c3; have bg7 := hB7.big; have r7a := hB7.r0; have r7b := hB7.r1; have r7c := hB7.r2; have r7d := hB7.r3; have hX7 := hX6.on hb7; have x7 := hX7.c0; have x7a := hX7.c1; have x7b := hX7.c2; have x7c := hX7.c3; have xl7 := hX7.lt); (try go_wp2_with fail); refine tr hK (fun hHeld => ?_); clear hK K)
      refine tq 4 hHeld ?_
      refine wpAnyH_done (by kernel_rfl) ?_ _
      go_wp2_with fail
      go_meet
      have hb67 := hb6.trans (hb7.mono hb6.size)
      exact ⟨rfl, hB7, hW.on hb67.ofDr, hX7, hG.on hb67.ofDr⟩
    case rest =>
    clear hB z0 z1 z2 z3 hbig y0 y1 y2 y3 hX x0 x1 x2 x3 hxl hW hG
    obtain ⟨rfl, hB, hW, hX, hG⟩ := hcut
    have z0 := hB.wd.c0
    have z1 := hB.wd.c1
    have z2 := hB.wd.c2
    have z3 := hB.wd.c3
    have hbig := hB.big
    have y0 := hB.r0
    have y1 := hB.r1
    have y2 := hB.r2
    have y3 := hB.r3
    have x0 := hX.c0
    have x1 := hX.c1
    have x2 := hX.c2
    have x3 := hX.c3
    have hxl := hX.lt
    go_upto_region 13 with fail
    go_cut [9] (fun s wc => s = .int .i64 (1 + (n : Int) * 12 + (m : Int) * 2) ∧ RyR w T P a n c a' m c' x y u v wc ∧ Lv wc lw hw 3 1 aw N cw R ∧ Lv wc lg hg 3 1 ag N cg R)
    case first =>
      go_wp2_with (go_at_call 16; refine (markWorld_any T P b n U d m Q _ hX.hr hX.hq (by omega) (by omega) (by omega)).mono ?_; rintro e w2 ⟨rfl, hf2⟩)
      go_meet
      exact ⟨rfl, hB.fr hf2 (fun x hx => by rcases hx with rfl | rfl <;> omega), hW.fr hf2 (fun x hx => by rcases hx with rfl | rfl <;> omega), hG.fr hf2 (fun x hx => by rcases hx with rfl | rfl <;> omega)⟩
    case rest =>
    clear hB z0 z1 z2 z3 hbig y0 y1 y2 y3 hX x0 x1 x2 x3 hxl hW hG
    obtain ⟨rfl, hB, hW, hG⟩ := hcut
    have z0 := hB.wd.c0
    have z1 := hB.wd.c1
    have z2 := hB.wd.c2
    have z3 := hB.wd.c3
    have hbig := hB.big
    have y0 := hB.r0
    have y1 := hB.r1
    have y2 := hB.r2
    have y3 := hB.r3
    have hk0 : ¬ ((1 + (n : Int) * 12 + (m : Int) * 2) < 0) := by omega
    go_upto_region 14 with fail
    go_cut [48] (fun s wc => s = .bool false ∧ RyR w T P a n c a' m c' x y u v wc ∧ Lv wc lw hw 3 1 aw N cw R ∧ Lv wc lg hg 3 1 ag N cg R)
    case first =>
      go_wp2_with (go_at_call 15; refine (eqIntS_same _ _ _ _ _ R _ hG.flat hW.flat hN20).mono ?_; rintro e w8 ⟨rfl, hb8⟩)
      go_meet
      exact ⟨rfl, hB.on hb8, hW.on hb8, hG.on hb8⟩
    case rest =>
    clear hB z0 z1 z2 z3 hbig y0 y1 y2 y3 hW hG
    obtain ⟨rfl, hB, hW, hG⟩ := hcut
    have z0 := hB.wd.c0
    have z1 := hB.wd.c1
    have z2 := hB.wd.c2
    have z3 := hB.wd.c3
    have hbig := hB.big
    have y0 := hB.r0
    have y1 := hB.r1
    have y2 := hB.r2
    have y3 := hB.r3
    go_upto_region 17 with fail
    go_cut [10] (fun s wc => s = .int .i64 (1 + (N : Int)) ∧ RyR w T P a n c a' m c' x y u v wc ∧ Lv wc lw hw 3 1 aw N cw R ∧ Lv wc lg hg 3 1 ag N cg (fun q => 1 + (q : Int)))
    case first =>
      go_wp2_with (go_at_call 17; refine (markIntS_any lg _ _ _ R _ hG.own (by omega)).mono ?_; rintro e w2 ⟨rfl, ho2, hg2⟩)
      go_meet
      exact ⟨rfl, hB.fr (X := fun x => (Value.slice ag N cg).ownBlock = some x) (Fr.grown hg2 (fun _ e => e) hG.own.isCells) (fun x hx => by have := (hG.own.lt x hx).1; omega), hW.gr hG hg2 (.inl (by omega)), hG.me hg2 ho2⟩
    case rest =>
    clear hB z0 z1 z2 z3 hbig y0 y1 y2 y3 hW hG
    obtain ⟨rfl, hB, hW, hG⟩ := hcut
    have z0 := hB.wd.c0
    have z1 := hB.wd.c1
    have z2 := hB.wd.c2
    have z3 := hB.wd.c3
    have hbig := hB.big
    have y0 := hB.r0
    have y1 := hB.r1
    have y2 := hB.r2
    have y3 := hB.r3
    have hk1 : ¬ ((1 + (N : Int)) < 0) := by omega
    go_upto_region 19 with fail
    go_cut [11] (fun s wc => s = .int .i64 (1 + (N : Int)) ∧ RyR w T P a n c a' m c' x y u v wc ∧ Lv wc lw hw 3 1 aw N cw R ∧ Lv wc lg hg 3 1 ag N cg (fun q => 1 + (q : Int)))
    case first =>
      go_wp2_with (go_at_call 18; refine (heldIntS_any _ _ _ _ hG.flat (by omega)).mono ?_; rintro e w2 ⟨rfl, rfl⟩)
      go_meet
      exact ⟨rfl, hB, hW, hG⟩
    case rest =>
    clear hB z0 z1 z2 z3 hbig y0 y1 y2 y3 hW hG
    obtain ⟨rfl, hB, hW, hG⟩ := hcut
    have z0 := hB.wd.c0
    have z1 := hB.wd.c1
    have z2 := hB.wd.c2
    have z3 := hB.wd.c3
    have hbig := hB.big
    have y0 := hB.r0
    have y1 := hB.r1
    have y2 := hB.r2
    have y3 := hB.r3
    go_upto_region 24 with fail
    go_cut [12] (fun s wc => ∃ ah ch lh hh, s = .slice ah N ch ∧ RyR w T P a n c a' m c' x y u v wc ∧ Lv wc lw hw 3 1 aw N cw R ∧ Lv wc lg hg 3 1 ag N cg (fun q => 1 + (q : Int)) ∧ Lv wc lh hh 3 1 ah N ch R)
    case first =>
      refine wp_region_held_drew (S := fun w' => w'.cell? ⟨w.heap.size, 0, none⟩ = some (.int .i64 T) ∧ w'.cell? ⟨w.heap.size, 1, none⟩ = some (.int .i64 P) ∧ w'.cell? ⟨w.heap.size, 2, none⟩ = some (.slice a n c) ∧ w'.cell? ⟨w.heap.size, 3, none⟩ = some (.slice a' m c') ∧ w'.cell? ⟨w.heap.size + 1, 0, none⟩ = some (.int .i64 x) ∧ w'.cell? ⟨w.heap.size + 1, 1, none⟩ = some (.int .i64 y) ∧ w'.cell? ⟨w.heap.size + 1, 2, none⟩ = some (.int .i64 u) ∧ w'.cell? ⟨w.heap.size + 1, 3, none⟩ = some (.int .i64 v)) (by kernel_rfl) ?_ (fun hHeld => ?_)
      · (try dsimp only)
        (first | (go_simp; done) | (go_keep; done))
      refine tq 0 hHeld ?_
      refine tq 2 hHeld ?_
      (refine tc 1 fun K hK => ?_; go_simp; (go_at_call 9; refine (toWorld_any T P a n c U a' m c' Q _ (h.below hB.wd.bel.drew) (h'.below hB.wd.bel.drew) (by omega) (by omega)).mono ?_; rintro e w2 ⟨b2, d2, s2, rfl, hl2, hl2a, hl2b, hl2c, hr2, hq2, hb2⟩; have hB2 := hB.on hb2.ofDr; have m2 := hB2.wd.c0; have m2a := hB2.wd.c1; have m2b := hB2.wd.c2; have m2c := hB2.wd.c3; have bg2 := hB2.big; have r2a := hB2.r0; have r2b := hB2.r1; have r2c := hB2.r2; have r2d := hB2.r3); (try go_wp2_with fail); refine tr hK (fun hHeld => ?_); clear hK K)
      (refine tc 3 fun K hK => ?_; go_simp; (go_at_call 20; refine (toBox_any x y u v _).mono ?_; rintro e w3 ⟨rfl, hb3⟩; have hB3 := hB2.on hb3; have m3 := hB3.wd.c0; have m3a := hB3.wd.c1; have m3b := hB3.wd.c2; have m3c := hB3.wd.c3; have bg3 := hB3.big; have r3a := hB3.r0; have r3b := hB3.r1; have r3c := hB3.r2; have r3d := hB3.r3; have hr3 := hr2.below hb3; have hq3 := hq2.below hb3); (try go_wp2_with fail); refine tr hK (fun hHeld => ?_); clear hK K)
      (refine tc 4 fun K hK => ?_; go_simp; (go_at_call 21; refine (worldIn_q T P _ n _ U _ m _ Q x y u v _ hr3.flat hq3.flat (by omega) (by omega)).mono ?_; rintro e w4 ⟨a4, N4, c4, rfl, hN4, hO4⟩; rw [hR1.out] at hO4; obtain rfl : N4 = N := (by rw [hN] at hN4; omega); have hb4 := hO4.bel; have hB4 := hB3.on hb4; have m4 := hB4.wd.c0; have m4a := hB4.wd.c1; have m4b := hB4.wd.c2; have m4c := hB4.wd.c3; have bg4 := hB4.big; have r4a := hB4.r0; have r4b := hB4.r1; have r4c := hB4.r2; have r4d := hB4.r3); (try go_wp2_with fail); refine tr hK (fun hHeld => ?_); clear hK K)
      refine tq 5 hHeld ?_
      refine wpAnyH_done (by kernel_rfl) ?_ _
      go_wp2_with fail
      go_meet
      have hb24 := (hb2.trans (hb3.mono hb2.size)).trans (hb4.mono (Nat.le_trans hb2.size hb3.size))
      exact ⟨_, _, _, _, rfl, hB4, hW.on hb24.ofDr, hG.on hb24.ofDr, hO4.lv⟩
    case rest =>
    clear hB z0 z1 z2 z3 hbig y0 y1 y2 y3 hW hG
    obtain ⟨ah, ch, lh, hh, rfl, hB, hW, hG, hH⟩ := hcut
    have z0 := hB.wd.c0
    have z1 := hB.wd.c1
    have z2 := hB.wd.c2
    have z3 := hB.wd.c3
    have hbig := hB.big
    have y0 := hB.r0
    have y1 := hB.r1
    have y2 := hB.r2
    have y3 := hB.r3
    go_upto_region 25 with fail
    go_cut [68] (fun s wc => s = .bool false ∧ RyR w T P a n c a' m c' x y u v wc ∧ Lv wc lg hg 3 1 ag N cg (fun q => 1 + (q : Int)))
    case first =>
      go_wp2_with (go_at_call 15; refine (eqIntS_same _ _ _ _ _ R _ hH.flat hW.flat hN20).mono ?_; rintro e w9 ⟨rfl, hb9⟩)
      go_meet
      exact ⟨rfl, hB.on hb9, hG.on hb9⟩
    case rest =>
    clear hB z0 z1 z2 z3 hbig y0 y1 y2 y3 hW hG hH
    obtain ⟨rfl, hB, hG⟩ := hcut
    go_upto_region 28 with fail
    go_wp2_with (go_at_call 18; refine (heldIntS_any _ _ _ _ hG.flat (by omega)).mono ?_; rintro e w2 ⟨rfl, rfl⟩)
    go_ret
    exact ⟨rfl, hB.wd.bel⟩
  · go_enter Try.func5, Try.ntmps5
    go_upto_region 2 with fail
    go_cut [5] (fun s wc => ∃ z : Int, s = .int .i64 z ∧ z < 0 ∧ Below w.heap.size w wc)
    case first =>
      go_wp2_with (go_at_call 7; refine (szWorld_any T P a n c a' m c' _ hn hm).mono ?_; rintro e w1 ⟨⟨z, rfl, hz1, hz2, hz3⟩, hb1⟩)
      go_meet
      exact ⟨z, rfl, by omega, by repeat (first | with_reducible apply Below.refl | (with_reducible apply Below.setCell; rotate_left; focus (first | omega | (simp; done) | (simp; omega))) | (with_reducible apply Below.alloc; rotate_left; focus (first | omega | (simp; done) | (simp; omega))) | with_reducible apply Below.drew | with_reducible apply belowDrewN | (with_reducible apply Below.trans; rotate_left; with_reducible apply Below.mono; with_reducible assumption; focus (first | omega | (simp; done) | (simp; omega))))⟩
    case rest =>
    obtain ⟨z, rfl, hz, hB⟩ := hcut
    go_wp2
    go_ret
    exact ⟨rfl, hB⟩
end Go.Proofs.Ytgcobcmpkbcfoaa
namespace Go.Proofs.Ytgcobcmpkbcfoaa
theorem head_cut {l : List (List Char)} {c : List Char} (h : (l.head? == some c) = true) : ∃ rest, l = c :: rest := by
  cases l with
  | nil => simp at h
  | cons a r => simp at h; exact ⟨r, by rw [h]⟩
theorem strip_cut (rest : List (List Char)) : stripLifts liftWords ("cut".toList :: rest) = ([], "cut".toList :: rest) := by kernel_rfl
theorem make_of {P : Program} {l : List Char} (h0 : P.initOrder.toList = l) (h1 : ((behindMainWord (wordsSigns l)).head? == some "cut".toList) = true) : P.make = some .cut := by
  obtain ⟨rest, hr⟩ := head_cut h1
  unfold Program.make
  rw [h0, hr]
  rfl
theorem headLifts_of {P : Program} {l : List Char} (h0 : P.initOrder.toList = l) (h1 : ((behindMainWord (wordsSigns l)).head? == some "cut".toList) = true) : P.headLifts = [] := by
  obtain ⟨rest, hr⟩ := head_cut h1
  unfold Program.headLifts
  rw [h0, hr, strip_cut]
  rfl
theorem liftsFinal_of {P : Program} {l : List Char} (h0 : P.initOrder.toList = l) (h1 : ((behindMainWord (wordsSigns l)).head? == some "cut".toList) = true) : P.liftsFinal = false := by
  have hh := headLifts_of h0 h1
  obtain ⟨rest, hr⟩ := head_cut h1
  unfold Program.liftsFinal
  rw [h0, hr, hh]
  rfl
theorem mayEnter_of {P : Program} {l : List Char} (h0 : P.initOrder.toList = l) (h1 : ((behindMainWord (wordsSigns l)).head? == some "cut".toList) = true) (h2 : P.laysLater = false) (h3 : P.bearsReflect = false) (h4 : P.doorFits [] = true) : P.mayEnter = true := by
  obtain ⟨rest, hr⟩ := head_cut h1
  unfold Program.mayEnter
  rw [h0, hr]
  simp only [strip_cut, h2, h3, h4]
  simp
end Go.Proofs.Ytgcobcmpkbcfoaa
namespace Go.Proofs.Ytgcobcmpkbcfoaa
set_option maxRecDepth 100000
def ordL : { l : List Char // Try.prog.initOrder = String.ofList l } := ⟨_, rfl⟩
theorem ordT : Try.prog.initOrder.toList = ordL.1 := (congrArg String.toList ordL.2).trans String.toList_ofList
theorem headE : ((behindMainWord (wordsSigns ordL.1)).head? == some "cut".toList) = true := by kernel_rfl
theorem makeT : Try.prog.make = some .cut := make_of ordT headE
theorem liftsFinalT : Try.prog.liftsFinal = false := liftsFinal_of ordT headE
theorem laysLaterT : Try.prog.laysLater = false := by kernel_rfl
theorem bearsReflectT : Try.prog.bearsReflect = false := by kernel_rfl
theorem doorFitsT : Try.prog.doorFits [] = true := by kernel_rfl
theorem mayEnterT : Try.prog.mayEnter = true := mayEnter_of ordT headE laysLaterT bearsReflectT doorFitsT
theorem ownT : ownKnob Try.prog.godebug = none := by kernel_rfl
theorem laidOutT : laidOutB Try.prog = true := by kernel_rfl
theorem mapsRowedT : mapsRowed Try.prog = true := by kernel_rfl
theorem stopsHeardT : Try.prog.stopsHeard = true := by kernel_rfl
theorem plainKeysT : Try.prog.plainKeys = true := by kernel_rfl
end Go.Proofs.Ytgcobcmpkbcfoaa
namespace Go.Proofs.Ytgcobcmpkbcfoaa
open Go.RowKit Go.ChangeShapes Go.WideShapes Go.Deep
set_option linter.unusedVariables false
set_option linter.unusedSimpArgs false
/-- what is read at the type is k numbers -/
def IntsOf (P : Program) (e : TypeId) (k : Nat) : Prop :=
  ∀ (H : Type) (enc : TypeId × Value → H) (w : World) (base : Nat) (spare : Nat → Bool) (held : Bool) (fuel : Nat) (cs : List Value) (x : DataW H × List MemPlace),
    DataW.trod enc P w base spare held fuel e cs = some x → cs.length = k ∧ ∀ j, j < k → ∃ v : Int, cs[j]? = some (.int .i64 v) ∧ (Lit.int .i64 v).wf = true
theorem IntsOf.int {P : Program} {e : TypeId} (h : P.underlying e = some (.int .i64)) : IntsOf P e 1 := by
  intro H enc w base spare held fuel cs x hx
  obtain ⟨v, h1, _, h3⟩ := DataW.trod_int h hx
  subst h1
  refine ⟨rfl, fun j hj => ?_⟩
  obtain rfl : j = 0 := by omega
  exact ⟨v, rfl, h3⟩
theorem IntsOf.struct {P : Program} {t : TypeId} {k : Nat} {fs : Array Field} (cs_ : List Nat) (ht : P.underlying t = some (.struct fs)) (hk : P.cellsOf t = k)
    (hf : ∀ (i : Nat) (f : Field) (c : Nat), fs[i]? = some f → cs_[i]? = some c → P.cellsOf f.type = c ∧ IntsOf P f.type c)
    (cover : (List.range k).all (fun j => (List.range fs.size).any fun i => match fs[i]?, cs_[i]? with | some f, some c => decide (f.offset ≤ j ∧ j < f.offset + c) | _, _ => false) = true) : IntsOf P t k := by
  intro H enc w base spare held fuel cs x hx
  obtain ⟨xs, n, _, _, hl, hlen, hg⟩ := DataW.trod_struct ht hx
  rw [hk] at hl
  refine ⟨hl, fun j hj => ?_⟩
  rw [List.all_eq_true] at cover
  have c1 := cover j (List.mem_range.2 hj)
  rw [List.any_eq_true] at c1
  obtain ⟨i, hi, hm⟩ := c1
  have hi' := List.mem_range.1 hi
  cases hfi : fs[i]? with
  | none => simp [hfi] at hm
  | some f =>
    cases hci : cs_[i]? with
    | none => simp [hfi, hci] at hm
    | some c =>
      simp only [hfi, hci, decide_eq_true_eq] at hm
      obtain ⟨hc, hI⟩ := hf i f c hfi hci
      have g := hg i f hfi
      rw [hc] at g
      have hxi : i < xs.length := by rw [hlen]; exact hi'
      rw [List.getElem?_eq_getElem hxi] at g
      obtain ⟨_, q⟩ := hI H enc w base spare held _ _ _ g
      obtain ⟨v, hv, hw⟩ := q (j - f.offset) (by omega)
      refine ⟨v, ?_, hw⟩
      rw [List.getElem?_take, if_pos (by omega), List.getElem?_drop, show f.offset + (j - f.offset) = j by omega] at hv
      exact hv
theorem open_flat {P : Program} {t e : TypeId} {k : Nat} (hk0 : 0 < k) (ht : P.underlying t = some (.slice e)) (hk : P.cellsOf e = k) (hE : IntsOf P e k)
    {H : Type} {enc : TypeId × Value → H} {w : World} {base : Nat} {spare : Nat → Bool} {held : Bool} {fuel : Nat} {v : Value} {x : DataW H × List MemPlace}
    (h : DataW.trod enc P w base spare held fuel t [v] = some x) :
    ∃ (a : Option Addr) (n c : Nat) (U : Nat → Int), v = .slice a n c ∧ (n : Int) ≤ 9223372036854775807 ∧ Flat w a (n * k) U ∧ ∀ q, q < n * k → (Lit.int .i64 (U q)).wf = true := by
  rcases open_slice ht h with ⟨hc, _⟩ | ⟨a, len, cap, m, fu, D, Pl, hc, hb, hl, hm, hmm, _, hall⟩
  · simp only [List.cons.injEq, and_true] at hc
    subst hc
    exact ⟨none, 0, 0, fun _ => 0, rfl, by omega, by rw [Nat.zero_mul]; exact Flat.nil, fun q hq => by omega⟩
  · simp only [List.cons.injEq, and_true] at hc
    subst hc
    have hlm : len ≤ m := by rw [hmm]; split <;> omega
    have one : ∀ q, q < len * k → ∃ z : Int, w.cell? (a.add q) = some (.int .i64 z) ∧ (Lit.int .i64 z).wf = true := by
      intro q hq
      have hi : q / k < len := Nat.div_lt_of_lt_mul (by rw [Nat.mul_comm]; exact hq)
      obtain ⟨cs', h1, h2⟩ := hall (q / k) (by omega)
      obtain ⟨_, hlen, hcell⟩ := World.cells?_some h1
      obtain ⟨_, hv⟩ := hE H enc w base spare held _ _ _ h2
      obtain ⟨z, hz, hw⟩ := hv (q % k) (Nat.mod_lt _ hk0)
      have := hcell (q % k) (by rw [hk]; exact Nat.mod_lt _ hk0)
      rw [hz, hk, add_add, Nat.mul_comm, Nat.div_add_mod] at this
      exact ⟨z, this, hw⟩
    obtain ⟨U, hU⟩ := choose_lt one
    refine ⟨some a, len, cap, U, rfl, by unfold maxLen at hm; omega, ?_, fun q hq => (hU q hq).2⟩
    intro h0
    obtain ⟨b, o, spot⟩ := a
    have g0 := (hU 0 h0).1
    have hspot : spot = none := by simpa [Addr.add] using World.cell?_spot g0
    subst hspot
    have hbl := World.block_lt_of_cell? w _ g0
    simp only [Addr.add, if_true] at hbl
    refine ⟨b, o, rfl, hbl, fun q hq => ?_⟩
    have := (hU q hq).1
    by_cases hq0 : q = 0
    · subst hq0; simpa [Addr.add] using this
    · simpa [Addr.add, hq0] using this
end Go.Proofs.Ytgcobcmpkbcfoaa
namespace Go.Proofs.Ytgcobcmpkbcfoaa
open Go.RowKit Go.ChangeShapes Go.WideShapes Go.Deep
set_option linter.unusedVariables false
set_option linter.unusedSimpArgs false
theorem cellsI : Try.prog.cellsOf 3 = 1 := by kernel_rfl
theorem cellsV : Try.prog.cellsOf 36 = 2 := by kernel_rfl
theorem cellsSh : Try.prog.cellsOf 92 = 3 := by kernel_rfl
theorem cellsBd : Try.prog.cellsOf 94 = 12 := by kernel_rfl
theorem cellsSlB : Try.prog.cellsOf 22 = 1 := by kernel_rfl
theorem intsI : IntsOf Try.prog 3 1 := IntsOf.int Try.underlying3
theorem intsV : IntsOf Try.prog 36 2 := IntsOf.struct [1, 1] Try.underlying36 (by kernel_rfl) (fun i f c h1 h2 => match i, h1, h2 with
  | 0, h1, h2 => by cases h1; cases h2; exact ⟨cellsI, intsI⟩
  | 1, h1, h2 => by cases h1; cases h2; exact ⟨cellsI, intsI⟩
  | _ + 2, h1, h2 => by simp at h2) (by decide)
theorem intsSh : IntsOf Try.prog 92 3 := IntsOf.struct [1, 1, 1] Try.underlying92 (by kernel_rfl) (fun i f c h1 h2 => match i, h1, h2 with
  | 0, h1, h2 => by cases h1; cases h2; exact ⟨cellsI, intsI⟩
  | 1, h1, h2 => by cases h1; cases h2; exact ⟨cellsI, intsI⟩
  | 2, h1, h2 => by cases h1; cases h2; exact ⟨cellsI, intsI⟩
  | _ + 3, h1, h2 => by simp at h2) (by decide)
theorem intsBd : IntsOf Try.prog 94 12 := IntsOf.struct [1, 3, 2, 2, 1, 1, 1, 1] Try.underlying94 (by kernel_rfl) (fun i f c h1 h2 => match i, h1, h2 with
  | 0, h1, h2 => by cases h1; cases h2; exact ⟨cellsI, intsI⟩
  | 1, h1, h2 => by cases h1; cases h2; exact ⟨cellsSh, intsSh⟩
  | 2, h1, h2 => by cases h1; cases h2; exact ⟨cellsV, intsV⟩
  | 3, h1, h2 => by cases h1; cases h2; exact ⟨cellsV, intsV⟩
  | 4, h1, h2 => by cases h1; cases h2; exact ⟨cellsI, intsI⟩
  | 5, h1, h2 => by cases h1; cases h2; exact ⟨cellsI, intsI⟩
  | 6, h1, h2 => by cases h1; cases h2; exact ⟨cellsI, intsI⟩
  | 7, h1, h2 => by cases h1; cases h2; exact ⟨cellsI, intsI⟩
  | _ + 8, h1, h2 => by simp at h2) (by decide)
set_option maxRecDepth 100000 in
theorem open_bodies {H : Type} {enc : TypeId × Value → H} {W : World} {base b0 : Nat} {spare : Nat → Bool} {held : Bool} {v : Value} {d : DataW H} {p : List MemPlace}
    (hv : Value.okWide Try.prog W .any b0 22 v) (h : DataW.Trod enc Try.prog W base spare held 22 v d p) :
    ∃ (a : Option Addr) (n c : Nat) (U : Nat → Int), v = .slice a n c ∧ (n : Int) ≤ 9223372036854775807 ∧ Flat W a (n * 12) U ∧ ∀ q, q < n * 12 → (Lit.int .i64 (U q)).wf = true := by
  obtain ⟨a0, len, cap, rfl⟩ := okWide_slice Try.underlying22 hv
  obtain ⟨fuel, hf⟩ := h
  exact open_flat (by decide) Try.underlying22 cellsBd intsBd hf
end Go.Proofs.Ytgcobcmpkbcfoaa
namespace Go.Proofs.Ytgcobcmpkbcfoaa
open Go.RowKit Go.ChangeShapes Go.WideShapes Go.Deep
set_option linter.unusedVariables false
set_option linter.unusedSimpArgs false
theorem cellsPr : Try.prog.cellsOf 96 = 2 := by kernel_rfl
theorem cellsSlP : Try.prog.cellsOf 23 = 1 := by kernel_rfl
theorem cellsWd : Try.prog.cellsOf 25 = 4 := by kernel_rfl
theorem intsPr : IntsOf Try.prog 96 2 := IntsOf.struct [1, 1] Try.underlying96 (by kernel_rfl) (fun i f c h1 h2 => match i, h1, h2 with
  | 0, h1, h2 => by cases h1; cases h2; exact ⟨cellsI, intsI⟩
  | 1, h1, h2 => by cases h1; cases h2; exact ⟨cellsI, intsI⟩
  | _ + 2, h1, h2 => by simp at h2) (by decide)
theorem array4 {α : Type} {cs : Array α} (h : cs.size = 4) : ∃ c0 c1 c2 c3, cs = #[c0, c1, c2, c3] := by
  obtain ⟨l⟩ := cs
  match l, h with
  | [c0, c1, c2, c3], _ => exact ⟨c0, c1, c2, c3, rfl⟩
set_option maxRecDepth 100000 in
theorem open_world {H : Type} {enc : TypeId × Value → H} {W : World} {base b0 : Nat} {spare : Nat → Bool} {held : Bool} {v : Value} {d : DataW H} {p : List MemPlace}
    (hv : Value.okWide Try.prog W .any b0 25 v) (h : DataW.Trod enc Try.prog W base spare held 25 v d p) :
    ∃ (T P : Int) (a : Option Addr) (n c : Nat) (U : Nat → Int) (a' : Option Addr) (m c' : Nat) (Q : Nat → Int), v = .agg #[.int .i64 T, .int .i64 P, .slice a n c, .slice a' m c'] ∧ (n : Int) ≤ 9223372036854775807 ∧ (m : Int) ≤ 9223372036854775807 ∧ Flat W a (n * 12) U ∧ Flat W a' (m * 2) Q := by
  obtain ⟨cs, rfl, hsz⟩ := okWide_struct Try.underlying25 hv
  obtain ⟨c0, c1, c2, c3, rfl⟩ := array4 (hsz.trans cellsWd)
  obtain ⟨fuel, hf0⟩ := h
  obtain ⟨xs, n, _, hx, hl, hlen, hf⟩ := DataW.trod_struct Try.underlying25 hf0
  match xs, hlen with
  | [y0, y1, y2, y3], _ =>
    have k0 : DataW.trod enc Try.prog W base spare held n 3 [c0] = some y0 := by simpa [Value.cells, cellsI] using hf 0 _ rfl
    have k1 : DataW.trod enc Try.prog W base spare held n 3 [c1] = some y1 := by simpa [Value.cells, cellsI] using hf 1 _ rfl
    have k2 : DataW.trod enc Try.prog W base spare held n 22 [c2] = some y2 := by simpa [Value.cells, cellsSlB] using hf 2 _ rfl
    have k3 : DataW.trod enc Try.prog W base spare held n 23 [c3] = some y3 := by simpa [Value.cells, cellsSlP] using hf 3 _ rfl
    obtain ⟨T, e0, _, w0⟩ := DataW.trod_int Try.underlying3 k0
    obtain ⟨P, e1, _, w1⟩ := DataW.trod_int Try.underlying3 k1
    obtain ⟨a, n1, c, U, rfl, hn, hF, _⟩ := open_flat (by decide) Try.underlying22 cellsBd intsBd k2
    obtain ⟨a', m, c', Q, rfl, hm, hF', _⟩ := open_flat (by decide) Try.underlying23 cellsPr intsPr k3
    simp only [List.cons.injEq, and_true] at e0 e1
    subst e0 e1
    exact ⟨T, P, a, n1, c, U, a', m, c', Q, rfl, hn, hm, hF, hF'⟩
end Go.Proofs.Ytgcobcmpkbcfoaa
