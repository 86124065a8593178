/- Texts of a proof. -/
import Derived.Test.YtmnhankcbkfhaaaGreatDoorB53
import Derived.Test.YtmnhankcbkfhaaaGreatDoorB38
import Derived.Test.YtmnhankcbkfhaaaGreatDoorB37
import Derived.Test.YtmnhankcbkfhaaaGreatDoorB31
import Derived.Deep.RegionHeld3
import Derived.Deep.DeepCutAuto
import Derived.LoopNIn
import Derived.LoopIn
import Derived.Test.YtmnhankcbkfhaaaGreatDoorB45
import Derived.Test.YtmnhankcbkfhaaaGreatDoorB51
set_option maxHeartbeats 16000000
set_option maxRecDepth 20000
namespace Go.Proofs.YtmnhankcbkfhaaaGreatDoor
open Go.RowKit
set_option linter.unusedVariables false
set_option linter.unusedSimpArgs false
def stsU (n : Nat) (U : Nat → Int) (g : Int) : Nat → Nat → Int
 | 0 => U
 | k + 1 => stepU n (stsU n U g k) g
theorem Bods.sts {n : Nat} {U : Nat → Int} (h : Bods n U) (g : Int) : ∀ k, Bods n (stsU n U g k)
 | 0 => h
 | k + 1 => (((Bods.sts h g k).steps g).2.2.2.2.2.2).1
def okP (p : Int) : Bool := decide (0 ≤ p ∧ p ≤ 2560)
def okS (s : Int) : Bool := decide (0 ≤ s ∧ s ≤ 60)
def okSts (n : Nat) (U : Nat → Int) (p s : Int) : Bool := bodsB n U && (okP p && okS s)
theorem countOf_t (x l : Int) (what : Value) (w : World) (h : decide (0 ≤ x ∧ x ≤ l) = true) :
 Calls Tryz.prog 39 #[.int .i64 x, .int .i64 l, what] w fun e w' => e = .returned (.tuple #[.int .i64 x, Value.nilIface]) ∧ Below w.heap.size w w' := by
 have hset := cset_map
 go_enter Tryz.func39, Tryz.ntmps39
 go_wp2_with (go_at_call 56; refine (upTo_q x l true _ h).mono ?_; rintro e w1 ⟨rfl, hb1⟩)
 exact bodyPost_ret (v := .tuple #[.int .i64 x, Value.nilIface]) (by simp [results, Tryz.results39, go_sem]) rfl ⟨rfl, hb1⟩
theorem countOf_f (x l : Int) (what : ByteArray) (w : World) (h : decide (0 ≤ x ∧ x ≤ l) = false) :
 Calls Tryz.prog 39 #[.int .i64 x, .int .i64 l, .string what] w fun e w' => ∃ q : Addr, e = .returned (.tuple #[.int .i64 0, .iface 75 (.pointer (some q))]) ∧ Below w.heap.size w w' := by
 have hset := cset_map
 go_enter Tryz.func39, Tryz.ntmps39
 go_wp2_with (go_at_call 56; refine (upTo_q x l false _ h).mono ?_; rintro e w1 ⟨rfl, hb1⟩)
 exact bodyPost_ret (v := .tuple #[.int .i64 0, .iface 75 (.pointer (some ⟨w1.heap.size, 0, none⟩))]) (by simp [results, Tryz.results39, go_sem]) rfl ⟨_, rfl, hb1.alloc hb1.size _⟩
theorem stepped_f (a : Option Addr) (n c : Nat) (U : Nat → Int) (p s : Int) (w : World) (h : Flat w a (n * 12) U) (hn : n ≤ 1048576) (hk : okSts n U p s = false) :
 Calls Tryz.prog 20 #[.slice a n c, .int .i64 p, .int .i64 s] w fun e w' => ∃ q : Addr, e = .returned (.tuple #[.slice none 0 0, .iface 75 (.pointer (some q))]) ∧ Below w.heap.size w w' := by
 have hset := cset_map
 cases kb : bodsB n U with
 | false =>
  go_enter Tryz.func20, Tryz.ntmps20
  go_wp2_with (go_at_call 38; refine (bodiesOf_f a n c U _ h hn kb).mono ?_; rintro e w1 ⟨x, rfl, hb1⟩)
  exact bodyPost_ret (v := .tuple #[.slice none 0 0, .iface 75 (.pointer (some x))]) (by simp [results, Tryz.results20, go_sem]) rfl ⟨_, rfl, hb1⟩
 | true =>
  cases kp0 : okP p with
  | false =>
   have kp : decide (0 ≤ p ∧ p ≤ 2560) = false := kp0
   go_enter Tryz.func20, Tryz.ntmps20
   go_wp2_with (first
    | (have _ := hb1; go_at_call 39; refine (countOf_f p 2560 _ _ kp).mono ?_; rintro e w2 ⟨x, rfl, hb2⟩)
    | (go_at_call 38; refine (bodiesOf_t a n c U _ h hn kb).mono ?_; rintro e w1 ⟨cb, S, rfl, hcb, hC, hb1⟩))
   exact bodyPost_ret (v := .tuple #[.slice none 0 0, .iface 75 (.pointer (some x))]) (by simp [results, Tryz.results20, go_sem]) rfl ⟨_, rfl, hb1.trans (hb2.mono hb1.size)⟩
  | true =>
   have kp : decide (0 ≤ p ∧ p ≤ 2560) = true := kp0
   have ks : decide (0 ≤ s ∧ s ≤ 60) = false := by
    unfold okSts at hk
    rw [kb, kp0] at hk
    exact hk
   go_enter Tryz.func20, Tryz.ntmps20
   go_wp2_with (first
    | (have _ := hb2; go_at_call 39; refine (countOf_f s 60 _ _ ks).mono ?_; rintro e w3 ⟨x, rfl, hb3⟩)
    | (have _ := hb1; go_at_call 39; refine (countOf_t p 2560 _ _ kp).mono ?_; rintro e w2 ⟨rfl, hb2⟩)
    | (go_at_call 38; refine (bodiesOf_t a n c U _ h hn kb).mono ?_; rintro e w1 ⟨cb, S, rfl, hcb, hC, hb1⟩))
   have hb12 := hb1.trans (hb2.mono hb1.size)
   exact bodyPost_ret (v := .tuple #[.slice none 0 0, .iface 75 (.pointer (some x))]) (by simp [results, Tryz.results20, go_sem]) rfl ⟨_, rfl, hb12.trans (hb3.mono hb12.size)⟩
theorem stepped_t (a : Option Addr) (n c : Nat) (U : Nat → Int) (p s : Int) (w : World) (h : Flat w a (n * 12) U) (hn : n ≤ 1048576) (hk : okSts n U p s = true) :
 Calls Tryz.prog 20 #[.slice a n c, .int .i64 p, .int .i64 s] w fun e w' => ∃ a' c', e = .returned (.tuple #[.slice a' n c', Value.nilIface]) ∧ OutL w w' 39 12 a' n c' (stsU n U p s.toNat) := by
 have hset := cset_map
 unfold okSts okP okS at hk
 rw [Bool.and_eq_true, Bool.and_eq_true] at hk
 obtain ⟨kb, kp, ks⟩ := hk
 have hp := of_decide_eq_true kp
 have hs := of_decide_eq_true ks
 have hbb := Bods.of kb
 have hn12 := hbb.le
 obtain ⟨K, hK⟩ : ∃ K : Nat, s = (K : Int) := ⟨s.toNat, by omega⟩
 subst hK
 rw [Int.toNat_natCast]
 go_enter Tryz.func20, Tryz.ntmps20
 go_upto_region 11 with (first
  | (have _ := hb2; go_at_call 39; refine (countOf_t (K : Int) 60 _ _ ks).mono ?_; rintro e w3 ⟨rfl, hb3⟩)
  | (have _ := hb1; go_at_call 39; refine (countOf_t p 2560 _ _ kp).mono ?_; rintro e w2 ⟨rfl, hb2⟩)
  | (go_at_call 38; refine (bodiesOf_t a n c U _ h hn kb).mono ?_; rintro e w1 ⟨cb, S, rfl, hcb, hC, hb1⟩))
 have hxl : ∀ b, Xc S b → cb < b := fun b e => (hC.xlt e).1
 have hC3 := (hC.below hb2).below hb3
 have hb13 : Below w.heap.size w w3 := (hb1.trans (hb2.mono hb1.size)).trans (hb3.mono (hb1.trans (hb2.mono hb1.size)).size)
 clear hC hb1 hb2 hb3
 go_loopw [37] (fun s wr => ∃ k : Nat, k ≤ K ∧ s = .int .i64 (k : Int) ∧ Cs wr cb n (colOf (stsU n U p k)) S ∧ Below w.heap.size w wr) (fun s _ => K - (intOf s).toNat)
 case atStart => exact ⟨0, Nat.zero_le _, rfl, hC3, hb13⟩
 case round =>
  obtain ⟨k, hk, rfl, hCk, hbk⟩ := hrel
  by_cases hlt : k < K
  · have hkK : (k : Int) < (K : Int) := by omega
    have hsz := hbk.size
    go_wp2_with (go_at_call 40; refine (step_any cb n p _ S _ hCk (hbb.sts p k) hp).mono ?_; rintro e w5 ⟨rfl, hC5, hF5⟩)
    go_roundw
    case rel => exact ⟨k + 1, by omega, by go_num, hC5, hbk.trans (hF5.below hsz (fun b e => by have := hxl b e; omega))⟩
    case measure => simp [intOf]; omega
  · obtain rfl : k = K := by omega
    go_wp2_with (go_at_call 41; refine (list_any cb n _ S _ hCk hn12).mono ?_; rintro e w6 ⟨a6, c6, rfl, hO6⟩)
    refine bodyPost_ret (v := .tuple #[.slice a6 n c6, Value.nilIface]) (by simp [results, Tryz.results20, go_sem]) rfl ⟨a6, c6, rfl, hbk.trans (hO6.bel.mono hbk.size), (hO6.own.base hbk.size).congr fun q hq => ?_⟩
    unfold colOf
    rw [show q / 12 * 12 + q % 12 = q by omega]
theorem steps_i (a : Option Addr) (n c : Nat) (U : Nat → Int) (p s : Int) (w : World) (h : Flat w a (n * 12) U) (hn : n ≤ 1048576) (hg : w.cell? ⟨0, 0, none⟩ = some (.iface 152 (.agg #[.pointer (some ⟨1, 48, none⟩)]))) (N : Nat) (hN : (bif okSts n U p s then n else 0) = N) :
 Calls Tryz.prog 13 #[.slice a n c, .int .i64 p, .int .i64 s] w fun e w' => ∃ a1 c1, e = .returned (.slice a1 N c1) ∧ OutL w w' 39 12 a1 N c1 (stsU n U p s.toNat) := by
 have hset := cset_map
 have hlt : 0 < w.heap.size := cell_lt (a := ⟨0, 0, none⟩) hg
 cases hok : okSts n U p s with
 | false =>
  rw [hok, cond_false] at hN
  subst hN
  go_enter Tryz.func13, Tryz.ntmps13
  go_wp2_with (first
   | (have _ := hb1; go_at_call 21; refine (refused_yes x _ ((hb1.cell (p := ⟨0, 0, none⟩) hlt).trans hg)).mono ?_; rintro e w2 ⟨rfl, hb2⟩)
   | (go_at_call 20; refine (stepped_f a n c U p s _ h hn hok).mono ?_; rintro e w1 ⟨x, rfl, hb1⟩))
  go_ret
  exact ⟨none, 0, rfl, hb1.trans (hb2.mono hb1.size), OwnL.nil _ _ _ _ _⟩
 | true =>
  rw [hok, cond_true] at hN
  subst hN
  go_enter Tryz.func13, Tryz.ntmps13
  go_wp2_with (first
   | (have _ := hO1; go_at_call 21; refine (refused_nil _).mono ?_; rintro e w2 ⟨rfl, hb2⟩)
   | (go_at_call 20; refine (stepped_t a n c U p s _ h hn hok).mono ?_; rintro e w1 ⟨a1, c1, rfl, hO1⟩))
  go_ret
  exact ⟨a1, c1, rfl, hO1.bel.trans (hb2.mono hO1.bel.size), hO1.own.below hb2⟩
theorem steps_s (a : Option Addr) (n c : Nat) (U : Nat → Int) (p s : Int) (w : World) (h : Flat w a (n * 12) U) (hn : n ≤ 1048576) (N : Nat) (hN : (bif okSts n U p s then n else 0) = N) :
 Calls Tryz.prog 12 #[.slice a n c, .int .i64 p, .int .i64 s] w fun e w' => ∃ a1 c1, e = .returned (.slice a1 N c1) ∧ OutL w w' 39 12 a1 N c1 (stsU n U p s.toNat) := by
 have hset := cset_map
 unfold okSts at hN
 cases kb : bodsB n U with
 | false =>
  rw [kb, Bool.false_and, cond_false] at hN
  subst hN
  go_enter Tryz.func12, Tryz.ntmps12
  go_wp2_with (go_at_call 14; refine (sBodiesOk_q a n c U false _ h hn kb).mono ?_; rintro e w1 ⟨rfl, hb1⟩)
  go_ret
  exact ⟨_, _, rfl, hb1.trans (((Below.refl _ _).alloc (Nat.le_refl _) _).mono hb1.size), ((LsV.new w1 39 12).own.base hb1.size).congr (fun q hq => by omega)⟩
 | true =>
  rw [kb, Bool.true_and] at hN
  cases kp0 : okP p with
  | false =>
   have kp : decide (0 ≤ p ∧ p ≤ 2560) = false := kp0
   rw [kp0, Bool.false_and, cond_false] at hN
   subst hN
   go_enter Tryz.func12, Tryz.ntmps12
   go_wp2_with (first | (have _ := hb1; go_at_call 15; refine (l1In_q p 0 2560 false _ kp).mono ?_; rintro e w2 ⟨rfl, hb2⟩) | (go_at_call 14; refine (sBodiesOk_q a n c U true _ h hn kb).mono ?_; rintro e w1 ⟨rfl, hb1⟩))
   have hb12 := hb1.trans (hb2.mono hb1.size)
   go_ret
   exact ⟨_, _, rfl, hb12.trans (((Below.refl _ _).alloc (Nat.le_refl _) _).mono hb12.size), ((LsV.new w2 39 12).own.base hb12.size).congr (fun q hq => by omega)⟩
  | true =>
   have kp : decide (0 ≤ p ∧ p ≤ 2560) = true := kp0
   rw [kp0, Bool.true_and] at hN
   cases ks0 : okS s with
   | false =>
    have ks : decide (0 ≤ s ∧ s ≤ 60) = false := ks0
    rw [ks0, cond_false] at hN
    subst hN
    go_enter Tryz.func12, Tryz.ntmps12
    go_wp2_with (first | (have _ := hb2; go_at_call 15; refine (l1In_q s 0 60 false _ ks).mono ?_; rintro e w3 ⟨rfl, hb3⟩) | (have _ := hb1; go_at_call 15; refine (l1In_q p 0 2560 true _ kp).mono ?_; rintro e w2 ⟨rfl, hb2⟩) | (go_at_call 14; refine (sBodiesOk_q a n c U true _ h hn kb).mono ?_; rintro e w1 ⟨rfl, hb1⟩))
    have hb12 := hb1.trans (hb2.mono hb1.size)
    have hb13 := hb12.trans (hb3.mono hb12.size)
    go_ret
    exact ⟨_, _, rfl, hb13.trans (((Below.refl _ _).alloc (Nat.le_refl _) _).mono hb13.size), ((LsV.new w3 39 12).own.base hb13.size).congr (fun q hq => by omega)⟩
   | true =>
    have ks : decide (0 ≤ s ∧ s ≤ 60) = true := ks0
    have hp := of_decide_eq_true kp
    have hs := of_decide_eq_true ks
    have hbb := Bods.of kb
    rw [ks0, cond_true] at hN
    subst hN
    obtain ⟨K, hK⟩ : ∃ K : Nat, s = (K : Int) := ⟨s.toNat, by omega⟩
    subst hK
    rw [Int.toNat_natCast]
    go_enter Tryz.func12, Tryz.ntmps12
    go_upto_region 4 with (first
     | (have _ := hb3; go_at_call 19; refine (l8Copy_any a n c U _ (h.below hb13) hn).mono ?_; rintro e w4 ⟨a4, c4, rfl, hO4⟩)
     | (have _ := hb2; go_at_call 15; refine (l1In_q (K : Int) 0 60 true _ ks).mono ?_; rintro e w3 ⟨rfl, hb3⟩; have hb13 := (hb1.trans (hb2.mono hb1.size)).trans (hb3.mono (hb1.trans (hb2.mono hb1.size)).size))
     | (have _ := hb1; go_at_call 15; refine (l1In_q p 0 2560 true _ kp).mono ?_; rintro e w2 ⟨rfl, hb2⟩)
     | (go_at_call 14; refine (sBodiesOk_q a n c U true _ h hn kb).mono ?_; rintro e w1 ⟨rfl, hb1⟩))
    have hO : OutL w w4 39 12 a4 n c4 (stsU n U p 0) := ⟨hb13.trans (hO4.bel.mono hb13.size), hO4.own.base hb13.size⟩
    clear hO4 hb13 hb1 hb2 hb3
    go_loopw [2, 7] (fun s2 s7 wr => ∃ (k : Nat) (ak : Option Addr) (ck : Nat), k ≤ K ∧ s2 = .int .i64 ((K : Int) - (k : Int)) ∧ s7 = .slice ak n ck ∧ OutL w wr 39 12 ak n ck (stsU n U p k)) (fun s2 _ _ => (intOf s2).toNat)
    case atStart => exact ⟨0, a4, c4, Nat.zero_le _, by simp, rfl, hO⟩
    case round =>
     clear hO
     obtain ⟨k, ak, ck, hk, rfl, rfl, hOk⟩ := hrel
     by_cases hlt : k < K
     · have hkK : (0 : Int) < (K : Int) - (k : Int) := by omega
       have hwr : IntKind.i64.wrap ((K : Int) - (k : Int) - 1) = (K : Int) - ((k + 1 : Nat) : Int) := by rw [i64w (by omega)]; omega
       go_wp2_with (go_at_call 16; refine (l9Step_any ak n ck _ p _ hOk.own.flat (hbb.sts p k) hp).mono ?_; rintro e w5 ⟨a5, c5, rfl, hO5⟩)
       go_roundw
       case rel => exact ⟨k + 1, a5, c5, by omega, by first | rfl | (congr 1; omega), rfl, hOk.bel.trans (hO5.bel.mono hOk.bel.size), hO5.own.base hOk.bel.size⟩
       case measure => simp [intOf]; omega
     · obtain rfl : k = K := by omega
       have hkK : ¬ (0 : Int) < (k : Int) - (k : Int) := by omega
       go_wp2
       go_ret
       exact ⟨ak, ck, rfl, hOk⟩
theorem steps_sr {n : Nat} {U R : Nat → Int} {p s : Int} (hR : R = stsU n U p s.toNat) (a : Option Addr) (c N : Nat) (w : World) (h : Flat w a (n * 12) U) (hn : n ≤ 1048576) (hN : (bif okSts n U p s then n else 0) = N) :
 Calls Tryz.prog 12 #[.slice a n c, .int .i64 p, .int .i64 s] w fun e w' => ∃ a1 c1, e = .returned (.slice a1 N c1) ∧ OutL w w' 39 12 a1 N c1 R := by subst hR; exact steps_s a n c U p s w h hn N hN
theorem steps_ir {n : Nat} {U R : Nat → Int} {p s : Int} (hR : R = stsU n U p s.toNat) (a : Option Addr) (c N : Nat) (w : World) (h : Flat w a (n * 12) U) (hn : n ≤ 1048576) (hg : w.cell? ⟨0, 0, none⟩ = some (.iface 152 (.agg #[.pointer (some ⟨1, 48, none⟩)]))) (hN : (bif okSts n U p s then n else 0) = N) :
 Calls Tryz.prog 13 #[.slice a n c, .int .i64 p, .int .i64 s] w fun e w' => ∃ a1 c1, e = .returned (.slice a1 N c1) ∧ OutL w w' 39 12 a1 N c1 R := by subst hR; exact steps_i a n c U p s w h hn hg N hN
theorem bif_le (b : Bool) (n : Nat) : (bif b then n else 0) ≤ n := by cases b <;> simp
theorem fnExactSteps_walk (a : Option Addr) (n c : Nat) (U : Nat → Int) (p s : Int) (w : World) (h : Flat w a (n * 12) U) (hn : (n : Int) ≤ 9223372036854775807)  (hG0 : w.cell? ⟨0, 0, none⟩ = some (.iface 152 (.agg #[.pointer (some ⟨1, 48, none⟩)]))):
 Calls Tryz.prog 4 #[.slice a n c, .int .i64 p, .int .i64 s] w fun e w' => e = .returned (.bool true) ∧ Below w.heap.size w w' := by
 have hset := cset_map
 by_cases h20 : n ≤ 1048576
 · have h1 : ¬ (1048576 - (n : Int) < 0) := by omega
   have hlt0 : 0 < w.heap.size := cell_lt (a := ⟨0, 0, none⟩) hG0
   have HGF : ∀ W, Below w.heap.size w W → W.cell? ⟨0, 0, none⟩ = some (.iface 152 (.agg #[.pointer (some ⟨1, 48, none⟩)])) := fun W b => (b.cell (p := ⟨0, 0, none⟩) hlt0).trans hG0
   obtain ⟨N, hN5⟩ : ∃ N, (bif okSts n U p s then n else 0) = N := ⟨_, rfl⟩
   have hN20 : N ≤ 1048576 := by have := bif_le (okSts n U p s) n; omega
   obtain ⟨R, hR⟩ : ∃ R, R = stsU n U p s.toNat := ⟨_, rfl⟩
   go_enter Tryz.func4, Tryz.ntmps4
   go_upto_region 5 with (go_at_call 5; refine (szBodyS_any _ _ _ _ hn).mono ?_; rw [if_pos h20]; rintro e w0 ⟨rfl, rfl⟩)
   go_cut [8] (fun s wc => ∃ aw cw lw hw, s = .slice aw N cw ∧ w0.heap.size ≤ lw ∧ lw ≤ hw ∧ Below w0.heap.size w0 wc ∧ Lv wc lw hw 39 12 aw N cw R)
   case first =>
    go_wp2_with (first
     | (go_at_call 7; refine (toBodyS_any _ _ _ U _ h h20).mono ?_; rintro e w2 ⟨b2, rfl, hl2, hr2, hb2⟩)
     | (go_at_call 12; refine (steps_sr hR _ _ N _ hr2.flat h20 hN5).mono ?_; rintro e w3 ⟨a3, c3, rfl, hO3⟩))
    go_meet
    exact ⟨_, _, _, _, rfl, hb2.size, hO3.bel.size, hb2.trans (hO3.bel.mono hb2.size), hO3.lv⟩
   case rest =>
   obtain ⟨aw, cw, lw, hw, rfl, g1, g2, hB, hW⟩ := hcut
   go_upto_region 6 with fail
   go_cut [9] (fun s wc => ∃ ax cx lx hx, s = .slice ax n cx ∧ n ≤ cx ∧ hw ≤ lx ∧ lx ≤ hx ∧ Below w0.heap.size w0 wc ∧ Lv wc lw hw 39 12 aw N cw R ∧ Lv wc lx hx 39 12 ax n cx U)
   case first =>
    go_wp2_with (go_at_call 7; refine (toBodyS_any _ _ _ U _ (h.below hB) h20).mono ?_; rintro e w2 ⟨b2, rfl, hl2, hr2, hb2⟩)
    go_meet
    exact ⟨_, _, _, _, rfl, Nat.le_refl _, hW.le, hb2.size, hB.trans (hb2.mono hB.size), hW.on hb2, Lv.row hr2 hl2 h20⟩
   case rest =>
   clear hB hW
   obtain ⟨ax, cx, lx, hx, rfl, hcx, g3, g4, hB, hW, hX⟩ := hcut
   go_upto_region 7 with fail
   go_cut [10] (fun s wc => ∃ ag cg lg hg, s = .slice ag N cg ∧ hx ≤ lg ∧ lg ≤ hg ∧ Below w0.heap.size w0 wc ∧ Lv wc lw hw 39 12 aw N cw R ∧ Lv wc lx hx 39 12 ax n cx U ∧ Lv wc lg hg 39 12 ag N cg R)
   case first =>
    go_wp2_with (go_at_call 13; refine (steps_ir hR _ _ N _ hX.flat h20 (HGF _ hB) hN5).mono ?_; rintro e w3 ⟨a3, c3, rfl, hO3⟩)
    go_meet
    exact ⟨_, _, _, _, rfl, hX.le, hO3.bel.size, hB.trans (hO3.bel.mono hB.size), hW.on hO3.bel, hX.on hO3.bel, hO3.lv⟩
   case rest =>
   clear hB hW hX
   obtain ⟨ag, cg, lg, hg, rfl, g5, g6, hB, hW, hX, hG⟩ := hcut
   go_upto_region 8 with fail
   go_cut [34] (fun s wc => s = .bool false ∧ Below w0.heap.size w0 wc ∧ Lv wc lw hw 39 12 aw N cw R ∧ Lv wc lx hx 39 12 ax n cx U ∧ Lv wc lg hg 39 12 ag N cg R)
   case first =>
    go_wp2_with (go_at_call 9; refine (eqBodyS_same _ _ _ _ _ R _ hG.flat hW.flat hN20).mono ?_; rintro e w8 ⟨rfl, hb8⟩)
    go_meet
    exact ⟨rfl, hB.trans (hb8.mono hB.size), hW.on hb8, hX.on hb8, hG.on hb8⟩
   case rest =>
   clear hB hW hX hG
   obtain ⟨rfl, hB, hW, hX, hG⟩ := hcut
   go_upto_region 10 with fail
   go_cut [39] (fun s wc => s = .bool false ∧ Below w0.heap.size w0 wc ∧ Lv wc lw hw 39 12 aw N cw R ∧ Lv wc lx hx 39 12 ax n cx U ∧ Lv wc lg hg 39 12 ag N cg R)
   case first =>
    go_wp2_with (first
     | (go_at_call 7; refine (toBodyS_any _ _ _ U _ (h.below hB) h20).mono ?_; rintro e w6 ⟨b6, rfl, hl6, hr6, hb6⟩)
     | (go_at_call 9; refine (eqBodyS_same _ _ _ _ _ U _ (hX.on hb6).flat hr6.flat h20).mono ?_; rintro e w7 ⟨rfl, hb7⟩))
    go_meet
    have hb67 := hb6.trans (hb7.mono hb6.size)
    exact ⟨rfl, hB.trans (hb67.mono hB.size), hW.on hb67, hX.on hb67, hG.on hb67⟩
   case rest =>
   clear hB hW hX hG
   obtain ⟨rfl, hB, hW, hX, hG⟩ := hcut
   go_upto_region 13 with fail
   go_cut [11] (fun s wc => s = .int .i64 (1 + (n : Int) * 12) ∧ Below w0.heap.size w0 wc ∧ Lv wc lw hw 39 12 aw N cw R ∧ Lv wc lx hx 39 12 ax n cx (fun q => 1 + (q : Int)) ∧ Lv wc lg hg 39 12 ag N cg R)
   case first =>
    go_wp2_with (go_at_call 10; refine (markBodyS_any lx _ _ _ U _ hX.own (by omega)).mono ?_; rintro e w2 ⟨rfl, ho2, hg2⟩)
    go_meet
    exact ⟨rfl, hX.below hB hB.size hg2 (by omega), hW.gr hX hg2 (.inl (by omega)), hX.me hg2 ho2, hG.gr hX hg2 (.inr (by omega))⟩
   case rest =>
   clear hB hW hX hG
   obtain ⟨rfl, hB, hW, hX, hG⟩ := hcut
   have hk0 : ¬ ((1 + (n : Int) * 12) < 0) := by omega
   go_upto_region 14 with fail
   go_cut [50] (fun s wc => s = .bool false ∧ Below w0.heap.size w0 wc ∧ Lv wc lw hw 39 12 aw N cw R ∧ Lv wc lx hx 39 12 ax n cx (fun q => 1 + (q : Int)) ∧ Lv wc lg hg 39 12 ag N cg R)
   case first =>
    go_wp2_with (go_at_call 9; refine (eqBodyS_same _ _ _ _ _ R _ hG.flat hW.flat hN20).mono ?_; rintro e w9 ⟨rfl, hb9⟩)
    go_meet
    exact ⟨rfl, hB.trans (hb9.mono hB.size), hW.on hb9, hX.on hb9, hG.on hb9⟩
   case rest =>
   clear hB hW hX hG
   obtain ⟨rfl, hB, hW, hX, hG⟩ := hcut
   go_upto_region 17 with fail
   go_cut [12] (fun s wc => s = .int .i64 (1 + (N : Int) * 12) ∧ Below w0.heap.size w0 wc ∧ Lv wc lw hw 39 12 aw N cw R ∧ Lv wc lx hx 39 12 ax n cx (fun q => 1 + (q : Int)) ∧ Lv wc lg hg 39 12 ag N cg (fun q => 1 + (q : Int)))
   case first =>
    go_wp2_with (go_at_call 10; refine (markBodyS_any lg _ _ _ R _ hG.own (by omega)).mono ?_; rintro e w2 ⟨rfl, ho2, hg2⟩)
    go_meet
    exact ⟨rfl, hG.below hB hB.size hg2 (by omega), hW.gr hG hg2 (.inl (by omega)), hX.gr hG hg2 (.inl (by omega)), hG.me hg2 ho2⟩
   case rest =>
   clear hB hW hX hG
   obtain ⟨rfl, hB, hW, hX, hG⟩ := hcut
   have hk1 : ¬ ((1 + (N : Int) * 12) < 0) := by omega
   go_upto_region 19 with fail
   go_cut [13] (fun s wc => s = .int .i64 (1 + (N : Int) * 12) ∧ Below w0.heap.size w0 wc ∧ Lv wc lw hw 39 12 aw N cw R ∧ Lv wc lx hx 39 12 ax n cx (fun q => 1 + (q : Int)) ∧ Lv wc lg hg 39 12 ag N cg (fun q => 1 + (q : Int)))
   case first =>
    go_wp2_with (go_at_call 11; refine (heldBodyS_any _ _ _ _ hG.flat (by omega)).mono ?_; rintro e w2 ⟨rfl, rfl⟩)
    go_meet
    exact ⟨rfl, hB, hW, hX, hG⟩
   case rest =>
   clear hB hW hX hG
   obtain ⟨rfl, hB, hW, hX, hG⟩ := hcut
   go_upto_region 24 with fail
   go_cut [14] (fun s wc => ∃ ah ch lh hh, s = .slice ah N ch ∧ Below w0.heap.size w0 wc ∧ Lv wc lw hw 39 12 aw N cw R ∧ Lv wc lx hx 39 12 ax n cx (fun q => 1 + (q : Int)) ∧ Lv wc lg hg 39 12 ag N cg (fun q => 1 + (q : Int)) ∧ Lv wc lh hh 39 12 ah N ch R)
   case first =>
    go_wp2_with (first
     | (go_at_call 7; refine (toBodyS_any _ _ _ U _ (h.below hB) h20).mono ?_; rintro e w2 ⟨b2, rfl, hl2, hr2, hb2⟩)
     | (go_at_call 13; refine (steps_ir hR _ _ N _ hr2.flat h20 (HGF _ (hB.trans (hb2.mono hB.size))) hN5).mono ?_; rintro e w3 ⟨a3, c3, rfl, hO3⟩))
    go_meet
    have hb23 := hb2.trans (hO3.bel.mono hb2.size)
    exact ⟨_, _, _, _, rfl, hB.trans (hb23.mono hB.size), hW.on hb23, hX.on hb23, hG.on hb23, hO3.lv⟩
   case rest =>
   clear hB hW hX hG
   obtain ⟨ah, ch, lh, hh, rfl, hB, hW, hX, hG, hH⟩ := hcut
   go_upto_region 25 with fail
   go_cut [70] (fun s wc => s = .bool false ∧ Below w0.heap.size w0 wc ∧ Lv wc lg hg 39 12 ag N cg (fun q => 1 + (q : Int)))
   case first =>
    go_wp2_with (go_at_call 9; refine (eqBodyS_same _ _ _ _ _ R _ hH.flat hW.flat hN20).mono ?_; rintro e w9 ⟨rfl, hb9⟩)
    go_meet
    exact ⟨rfl, hB.trans (hb9.mono hB.size), hG.on hb9⟩
   case rest =>
   clear hB hW hX hG hH
   obtain ⟨rfl, hB, hG⟩ := hcut
   go_upto_region 28 with fail
   go_wp2_with (go_at_call 11; refine (heldBodyS_any _ _ _ _ hG.flat (by omega)).mono ?_; rintro e w2 ⟨rfl, rfl⟩)
   go_ret
   exact ⟨rfl, hB⟩
 · have h1 : (1048576 - (n : Int) < 0) := by omega
   go_enter Tryz.func4, Tryz.ntmps4
   go_wp2_with (go_at_call 5; refine (szBodyS_any _ _ _ _ hn).mono ?_; rw [if_neg h20]; rintro e w0 ⟨rfl, rfl⟩)
   go_ret
   exact ⟨rfl, Below.refl _ _⟩
end Go.Proofs.YtmnhankcbkfhaaaGreatDoor
