/- Texts of a proof. -/
import Derived.Test.YtfiaokkolcodgaaGreatB46
import Derived.Test.YtfiaokkolcodgaaGreatB7
import Derived.Deep.RegionHeld3
import Derived.Deep.DeepCutAuto
set_option maxHeartbeats 16000000
set_option maxRecDepth 20000
namespace Go.Proofs.YtfiaokkolcodgaaGreat
open Go.RowKit
set_option linter.unusedVariables false
set_option linter.unusedSimpArgs false
theorem l8Contacts_q (a : Option Addr) (n c : Nat) (ac : Option Addr) (m cc : Nat) (Ct : Nat → Int) (b : Bool) (w : World) (hn : n ≤ 1048576) (h2 : Flat w ac (m * 5) Ct) (hm : m ≤ 1048576) (e : (decide (m ≤ 144) && ctsB n Ct m) = b) :
 Calls Tryz.prog 22 #[.slice a n c, .slice ac m cc] w fun e w' => e = .returned (.bool b) ∧ Below w.heap.size w w' := by
 subst e; exact l8Contacts_any a n c ac m cc Ct w hn h2 hm
theorem apart_s (a : Option Addr) (n c : Nat) (U : Nat → Int) (ac : Option Addr) (m cc : Nat) (Ct : Nat → Int) (w : World) (h : Flat w a (n * 12) U) (hn : n ≤ 1048576) (h2 : Flat w ac (m * 5) Ct) (hm : m ≤ 1048576) (N : Nat) (hN : (bif bcB n m U Ct then n else 0) = N) :
 Calls Tryz.prog 13 #[.slice a n c, .slice ac m cc] w fun e w' => ∃ a1 c1, e = .returned (.slice a1 N c1) ∧ OutL w w' 35 12 a1 N c1 (apartN Ct U m) := by
 have hset := cset_map
 cases kb : bodsB n U with
 | false =>
  have hk : bcB n m U Ct = false := by unfold bcB; rw [kb]; rfl
  rw [hk, cond_false] at hN
  subst hN
  go_enter Tryz.func13, Tryz.ntmps13
  go_wp2_with (go_at_call 9; refine (sBodiesOk_q a n c U false _ h hn kb).mono ?_; rintro e w1 ⟨rfl, hb1⟩)
  go_ret
  exact ⟨_, _, rfl, hb1.trans (((Below.refl _ _).alloc (Nat.le_refl _) _).mono hb1.size), ((LsV.new _ _ _).own.base hb1.size).congr (fun q hq => by omega)⟩
 | true =>
  cases kc : (decide (m ≤ 144) && ctsB n Ct m) with
  | false =>
   have hk : bcB n m U Ct = false := by unfold bcB; rw [kb, Bool.true_and]; exact kc
   rw [hk, cond_false] at hN
   subst hN
   go_enter Tryz.func13, Tryz.ntmps13
   go_wp2_with (first | (go_at_call 22; refine (l8Contacts_q a n c ac m cc Ct _ _ hn (h2.below hb1) hm kc).mono ?_; rintro e w2 ⟨rfl, hb2⟩) | (go_at_call 9; refine (sBodiesOk_q a n c U true _ h hn kb).mono ?_; rintro e w1 ⟨rfl, hb1⟩))
   have hb1 := hb1.trans (hb2.mono hb1.size)
   go_ret
   exact ⟨_, _, rfl, hb1.trans (((Below.refl _ _).alloc (Nat.le_refl _) _).mono hb1.size), ((LsV.new _ _ _).own.base hb1.size).congr (fun q hq => by omega)⟩
  | true =>
   have hk : bcB n m U Ct = true := by unfold bcB; rw [kb, Bool.true_and]; exact kc
   rw [hk, cond_true] at hN
   subst hN
   have hbb := Bods.of kb
   have hct : CtOk n m Ct := ctOk (by rw [Bool.and_eq_true] at kc; exact kc.2)
   go_enter Tryz.func13, Tryz.ntmps13
   go_wp2_with (first | (go_at_call 31; refine (l8Aparts_of (fun base g n c U A B X Y D w ho hn hA hB hbb hX hY hD => l8Apart_any base g n c U A B X Y D w ho hn hA hB hbb hX hY hD) a n c U ac m cc Ct _ (h.below hb12) hn hm (h2.below hb12) hbb hct).mono ?_; rintro e w3 ⟨a1, c1, rfl, hO⟩) | (go_at_call 22; refine (l8Contacts_q a n c ac m cc Ct _ _ hn (h2.below hb1) hm kc).mono ?_; rintro e w2 ⟨rfl, hb2⟩; have hb12 := hb1.trans (hb2.mono hb1.size)) | (go_at_call 9; refine (sBodiesOk_q a n c U true _ h hn kb).mono ?_; rintro e w1 ⟨rfl, hb1⟩))
   go_ret
   exact ⟨a1, c1, rfl, hb12.trans (hO.bel.mono hb12.size), hO.own.base hb12.size⟩
end Go.Proofs.YtfiaokkolcodgaaGreat
