/- Texts of a proof. -/
import Derived.Test.YtmnhankcbkfhaaaGreatDoorB43
import Derived.Test.YtmnhankcbkfhaaaGreatDoorB8
import Derived.Test.YtmnhankcbkfhaaaGreatDoorB19
import Derived.Deep.RegionHeld3
import Derived.Deep.DeepCutAuto
import Derived.LoopNIn
import Derived.LoopIn
import Derived.OwnWalkIn
import Derived.Test.YtmnhankcbkfhaaaGreatDoorB10
import Derived.Test.YtmnhankcbkfhaaaGreatDoorB23
import Derived.Test.YtmnhankcbkfhaaaGreatDoorB36
import Derived.Test.YtmnhankcbkfhaaaGreatDoorB27
set_option maxHeartbeats 16000000
set_option maxRecDepth 20000
namespace Go.Proofs.YtmnhankcbkfhaaaGreatDoor
open Go.RowKit
set_option linter.unusedVariables false
set_option linter.unusedSimpArgs false
theorem oneAwake_any {cb n base : Nat} {C : Nat → Nat → Int} {S : Nat → Value} {v : Value} {ms : List Nat} {sl : Nat → Bool} (w : World) (hC : Cs w cb n C S) (h : HL w base cb v ms) (hl : ∀ j, j ∈ ms → j < n) (hn : n ≤ 12) (hms : ms.length ≤ 12) (hs : ∀ j, j < n → decide (C 11 j = 8) = sl j) (b : Bool) (hb : ms.any (fun j => !sl j) = b) :
 Calls Tryz.prog 79 #[v] w fun e w' => e = .returned (.bool b) ∧ Below w.heap.size w w' := by
 have hset := cset_map
 obtain ⟨ad, cc, rfl⟩ := h.is
 go_enter Tryz.func79, Tryz.ntmps79
 go_upto_region 2 with fail
 go_loopw [7] (fun s wr => ∃ q : Nat, q ≤ ms.length ∧ s = .int .i64 (q : Int) ∧ (ms.take q).any (fun j => !sl j) = false ∧ Below w.heap.size w wr) (fun s _ => ms.length - (intOf s).toNat)
 case atStart => exact ⟨0, Nat.zero_le _, rfl, rfl, Below.refl _ _⟩
 case round =>
  obtain ⟨q, hq, rfl, hno, hB⟩ := hrel
  by_cases hlt : q < ms.length
  · obtain ⟨g, c, he, -, -⟩ := h.some (by omega)
    cases he
    have hw := h.below hB
    obtain ⟨c0, c1⟩ := hw.cells hlt
    obtain ⟨r, hr⟩ : ∃ r, ms[q] = r := ⟨_, rfl⟩
    rw [hr] at c0
    have hrn : r < n := hl r (hr ▸ List.getElem_mem hlt)
    have hqi : (q : Int) < (ms.length : Int) := by omega
    have hCw := hC.below hB
    have hE1 : Below wr.heap.size wr (wr.alloc (Obj.cells #[.int .i64 (r : Int), .pointer (some ⟨cb, 0, none⟩)] 106)) := (Below.refl _ _).alloc (Nat.le_refl _) _
    have hsr := hs r hrn
    have htk : Shut ((ms.take (q + 1)).any (fun j => !sl j) = !sl r) := by
     unfold Shut
     rw [List.take_succ_eq_append_getElem hlt, List.any_append, hno, hr]; simp
    cases hsl : sl r with
    | true =>
     rw [hsl] at hsr htk
     go_wp2_with (go_at_call 117; refine (kSleeps (Cs.hat (hCw.below hE1) hrn (by omega))).mono ?_; rw [hsr]; rintro e w1 ⟨rfl, hb1⟩)
     go_roundw
     case rel => exact ⟨q + 1, by omega, by go_num, htk.out, hB.trans ((hE1.trans (hb1.mono hE1.size)).mono hB.size)⟩
     case measure => simp [intOf]; omega
    | false =>
     rw [hsl] at hsr htk
     obtain rfl : true = b := by
      rw [← hb, eq_comm, List.any_eq_true]
      exact ⟨r, hr ▸ List.getElem_mem hlt, by rw [hsl]; rfl⟩
     go_wp2_with (go_at_call 117; refine (kSleeps (Cs.hat (hCw.below hE1) hrn (by omega))).mono ?_; rw [hsr]; rintro e w1 ⟨rfl, hb1⟩)
     go_ret
     exact ⟨rfl, hB.trans ((hE1.trans (hb1.mono hE1.size)).mono hB.size)⟩
  · obtain rfl : q = ms.length := by omega
    rw [List.take_length, hb] at hno
    subst hno
    go_wp2
    go_ret
    exact ⟨rfl, hB⟩
structure Vr (w A : World) (H lb t : Nat) (v : Value) (m : Nat) (xs : List Value) : Prop where
 bel : Below w.heap.size w A
 box : A.cell? ⟨lb, 0, none⟩ = some v
 nf : A.frozen? ⟨lb, 0, none⟩ = false
 own : A.ownsRow H t 1 v m xs
 lo : w.heap.size ≤ lb
 hi : lb < H
section
variable {w A A' : World} {H lb t m : Nat} {v : Value} {xs : List Value}
theorem Vr.lt (h : Vr w A H lb t v m xs) : lb < A.heap.size := cell_lt (a := ⟨lb, 0, none⟩) h.box
theorem Vr.isCells (h : Vr w A H lb t v m xs) : ∀ b o, v.ownBlock = some b → A.heap[b]? = some o → o.isCells = true := by
 intro b o hb ho
 rcases h.own.2 with ⟨hv, _⟩ | ⟨g, cap, cur, hv, _, hg, _⟩
 · subst hv; cases hb
 · subst hv
   simp only [Value.ownBlock, Option.some.injEq] at hb
   subst hb
   rw [hg] at ho; cases ho; rfl
theorem Vr.kx {B : Nat} (h : Vr w A H lb t v m xs) (k : Kx B H A A') (hB : w.heap.size ≤ B) (hl : lb < B) : Vr w A' H lb t v m xs := by
 refine ⟨h.bel.trans (k.below.mono hB), (k.below.cell (p := ⟨lb, 0, none⟩) hl).trans h.box, (k.below.frozen (p := ⟨lb, 0, none⟩) hl).trans h.nf, ⟨h.own.1, ?_⟩, h.lo, h.hi⟩
 rcases h.own.2 with q | ⟨g, cap, cur, hv, hb, hg, rest⟩
 · exact .inl q
 · exact .inr ⟨g, cap, cur, hv, hb, k.cells _ _ hg rfl hb, rest⟩
theorem Vr.sm {B : Nat} (h : Vr w A H lb t v m xs) (k : Sm B A A') (hB : w.heap.size ≤ B) : Vr w A' H lb t v m xs := by
 refine ⟨h.bel.trans (k.below.mono hB), k.cell h.box, k.frozen h.box h.nf, ⟨h.own.1, ?_⟩, h.lo, h.hi⟩
 rcases h.own.2 with q | ⟨g, cap, cur, hv, hb, hg, rest⟩
 · exact .inl q
 · exact .inr ⟨g, cap, cur, hv, hb, k.cells _ _ hg rfl, rest⟩
theorem Vr.on (h : Vr w A H lb t v m xs) (k : Below A.heap.size A A') : Vr w A' H lb t v m xs := by
 refine ⟨h.bel.trans (k.mono h.bel.size), (k.cell (p := ⟨lb, 0, none⟩) h.lt).trans h.box, (k.frozen (p := ⟨lb, 0, none⟩) h.lt).trans h.nf, ⟨h.own.1, ?_⟩, h.lo, h.hi⟩
 rcases h.own.2 with q | ⟨g, cap, cur, hv, hb, hg, rest⟩
 · exact .inl q
 · exact .inr ⟨g, cap, cur, hv, hb, (k.block _ (Array.getElem?_eq_some_iff.1 hg).1).trans hg, rest⟩
theorem Vr.push (h : Vr w A H lb t v m xs) {Y w7 : World} (hE : Below A.heap.size A Y) (hg : Y.grownBy w7 v.ownBlock) {v' : Value} {m' : Nat} {xs' : List Value} (ho : w7.ownsRow H t 1 v' m' xs') :
 (w7.cell? ⟨lb, 0, none⟩ = some v ∧ w7.frozen? ⟨lb, 0, none⟩ = false) ∧ Vr w (w7.setCell ⟨lb, 0, none⟩ v') H lb t v' m' xs' ∧ Fr (fun b => b = lb ∨ H ≤ b) A (w7.setCell ⟨lb, 0, none⟩ v') := by
 have h7 := h.on hE
 have hlo : ∀ b, v.ownBlock = some b → H ≤ b := fun b e => (World.ownsRow.lt h7.own b e).1
 have hF7 : Fr (fun b => v.ownBlock = some b) Y w7 := Fr.grown hg (fun b e => e) h7.isCells
 have hi := h.hi
 have nlb : ¬ (v.ownBlock = some lb) := fun e => by have := hlo _ e; omega
 have c := (hF7.cell (p := ⟨lb, 0, none⟩) h7.lt nlb).trans h7.box
 have f := (hF7.frozen (p := ⟨lb, 0, none⟩) h7.lt nlb).trans h7.nf
 have hF : Fr (fun b => b = lb ∨ H ≤ b) A (w7.setCell ⟨lb, 0, none⟩ v') := ((Fr.of_below hE).trans (hF7.mono (fun _ _ e => .inr (hlo _ e)))).trans (Fr.setCell (p := ⟨lb, 0, none⟩) (.inl rfl) _)
 have hlo' := h.lo
 refine ⟨⟨c, f⟩, ⟨h.bel.trans (hF.below h.bel.size (fun b e => e.elim (fun e => by omega) (fun e => by omega))), ?_, ?_, ⟨ho.1, ?_⟩, h.lo, h.hi⟩, hF⟩
 · rw [cset_map, c]; rfl
 · rw [World.frozen?_setCell]; exact f
 · rcases ho.2 with q | ⟨g, cap, cur, hv, hb, hg, rest⟩
   · exact .inl q
   · exact .inr ⟨g, cap, cur, hv, hb, (Below.heap_setCell w7 ⟨lb, 0, none⟩ v' g (by show ¬ g = lb; omega)).trans hg, rest⟩
end
section
attribute [local go_sem] Oper.semAt_some
end 
end Go.Proofs.YtmnhankcbkfhaaaGreatDoor
namespace Go.Proofs.YtmnhankcbkfhaaaGreatDoor
open Go.RowKit
set_option linter.unusedVariables false
set_option linter.unusedSimpArgs false
def memG (G : Nat → Int) (n t : Nat) : List Nat := (List.range n).filter fun j => decide (G j = (t : Int))
theorem memG_mem {G : Nat → Int} {n t j : Nat} : j ∈ memG G n t ↔ j < n ∧ G j = (t : Int) := by unfold memG; rw [List.mem_filter, List.mem_range, decide_eq_true_iff]
theorem memG_len (G : Nat → Int) (n t : Nat) : (memG G n t).length ≤ n := Nat.le_trans (List.length_filter_le _ _) (by rw [List.length_range]; exact Nat.le_refl _)
def AwL (w : World) (base cb : Nat) (v : Value) (G : Nat → Int) (n : Nat) (gs : List Nat) : Prop :=
 ∃ a c, v = .slice a gs.length c ∧ ∀ q (h : q < gs.length), ∃ b o vq, a = some ⟨b, o, none⟩ ∧ base ≤ b ∧ b < w.heap.size ∧ w.cell? ⟨b, o + q, none⟩ = some vq ∧ HL w base cb vq (memG G n gs[q])
theorem AwL.fr {w w' : World} {base cb n : Nat} {v : Value} {G : Nat → Int} {gs : List Nat} {X : Nat → Prop} (h : AwL w base cb v G n gs) (hF : Fr X w w') (hX : ∀ b, base ≤ b → b < w.heap.size → ¬ X b) : AwL w' base cb v G n gs := by
 obtain ⟨a, c, e, hq⟩ := h
 refine ⟨a, c, e, fun q h => ?_⟩
 obtain ⟨b, o, vq, e1, h1, h2, h3, h4⟩ := hq q h
 exact ⟨b, o, vq, e1, h1, Nat.lt_of_lt_of_le h2 hF.size, (hF.cell (p := ⟨b, o + q, none⟩) h2 (hX b h1 h2)).trans h3, h4.frame hF fun b' e' => hX b' (h4.lt b' e').1 (h4.lt b' e').2⟩
def wkU (P : Nat → Bool) (n : Nat) (U : Nat → Int) : Nat → Int := mapR (fun i V => wakeV (P i) V) U n
theorem wkU_row {P : Nat → Bool} {n : Nat} {U : Nat → Int} {j : Nat} (hj : j < n) : ∀ i, i < 12 → colOf (wkU P n U) i j = wakeV (P j) (fun i => U (j * 12 + i)) i := fun i hi => by unfold colOf wkU; rw [mapR_in hj hi]
theorem wkU_congr {P P' : Nat → Bool} {n : Nat} {U : Nat → Int} (h : ∀ j, j < n → P j = P' j) : ∀ i j, i < 12 → j < n → colOf (wkU P n U) i j = colOf (wkU P' n U) i j := fun i j hi hj => by rw [wkU_row hj i hi, wkU_row hj i hi, h j hj]
theorem wkU_set {P P' : Nat → Bool} {n : Nat} {U : Nat → Int} {j : Nat} (hb : BOk (fun i => U (j * 12 + i))) (hj : j < n) (hs : colOf (wkU P n U) 11 j = 8) (hP : ∀ k, k < n → P' k = (P k || decide (k = j))) : ∀ i k, i < 12 → k < n → setC (colOf (wkU P n U)) 11 j 0 i k = colOf (wkU P' n U) i k := fun i k hi hk => by
 rw [wkU_row hj 11 (by omega)] at hs
 have hPj : P j = false := by
  cases e : P j with
  | false => rfl
  | true =>
   rw [e] at hs
   unfold wakeV at hs
   cases e2 : decide (8 ≤ U (j * 12 + 11)) with
   | true => simp only [e2, Bool.true_and, cond_true] at hs; simp [setV] at hs
   | false =>
    simp only [e2, Bool.true_and, cond_false] at hs
    have := of_decide_eq_false e2
    omega
 rw [hPj] at hs
 have hs' : U (j * 12 + 11) = 8 := hs
 rw [wkU_row hk i hi, hP k hk]
 unfold setC
 by_cases e : k = j
 · subst e
   rw [hPj, decide_eq_true rfl, Bool.false_or]
   unfold wakeV
   rw [decide_eq_true (by show (8 : Int) ≤ U (k * 12 + 11); omega)]
   by_cases ei : i = 11
   · subst ei; simp [setV]
   · simp [setV, ei]
     rw [wkU_row hk i hi, hPj]
     rfl
 · rw [if_neg (fun q => e q.2), wkU_row hk i hi, decide_eq_false e, Bool.or_false]
theorem wkU_no {P P' : Nat → Bool} {n : Nat} {U : Nat → Int} {j : Nat} (hb : BOk (fun i => U (j * 12 + i))) (hj : j < n) (hs : ¬ colOf (wkU P n U) 11 j = 8) (hP : ∀ k, k < n → P' k = (P k || decide (k = j))) : ∀ i k, i < 12 → k < n → colOf (wkU P n U) i k = colOf (wkU P' n U) i k := fun i k hi hk => by
 rw [wkU_row hj 11 (by omega)] at hs
 rw [wkU_row hk i hi, wkU_row hk i hi, hP k hk]
 by_cases e : k = j
 · subst e
   rw [decide_eq_true rfl, Bool.or_true]
   cases e : P k with
   | true => rfl
   | false =>
    rw [e] at hs
    have hs' : ¬ U (k * 12 + 11) = 8 := hs
    have : 0 ≤ U (k * 12 + 11) ∧ U (k * 12 + 11) ≤ 8 := hb.q11
    unfold wakeV
    rw [decide_eq_false (by show ¬ (8 : Int) ≤ U (k * 12 + 11); omega)]
    rfl
 · rw [decide_eq_false e, Bool.or_false]
def slpL (G : Nat → Int) (n : Nat) (U : Nat → Int) (gs : List Nat) : Nat → Int := gs.foldl (fun V g => sleepS G (fun _ => true) n g V) U
theorem slp_take {G U : Nat → Int} {n q : Nat} {gs : List Nat} (h : q < gs.length) : slpL G n U (gs.take (q + 1)) = sleepS G (fun _ => true) n gs[q] (slpL G n U (gs.take q)) := by
 unfold slpL
 rw [List.take_succ_eq_append_getElem h, List.foldl_append]
 rfl
theorem sleepS_row {G U : Nat → Int} {A : Nat → Bool} {n g j i : Nat} (hj : j < n) (hi : i < 12) (h : G j ≠ (g : Int)) : sleepS G A n g U (j * 12 + i) = U (j * 12 + i) := by
 unfold sleepS
 cases A g && allQ G U g n with
 | false => rfl
 | true =>
  show mapR (slF G g) U n (j * 12 + i) = _
  rw [mapR_in hj hi]
  unfold slF
  rw [decide_eq_false h]
  rfl
theorem slp_row {G : Nat → Int} {n j i : Nat} (hj : j < n) (hi : i < 12) : ∀ (gs : List Nat) (U : Nat → Int), (∀ t, t ∈ gs → G j ≠ (t : Int)) → slpL G n U gs (j * 12 + i) = U (j * 12 + i)
 | [], U, _ => rfl
 | t :: gs, U, h => (slp_row hj hi gs (sleepS G (fun _ => true) n t U) (fun s hs => h s (List.mem_cons_of_mem _ hs))).trans (sleepS_row hj hi (h t List.mem_cons_self))
theorem sleepN_eq (G U : Nat → Int) (A : Nat → Bool) (n : Nat) : ∀ N, sleepN G A n U N = slpL G n U ((List.range N).filter A)
 | 0 => rfl
 | N + 1 => by
  rw [sleepN, sleepN_eq G U A n N, List.range_succ, List.filter_append]
  unfold slpL
  rw [List.foldl_append]
  cases h : A N with
  | true => simp only [List.filter, h, List.foldl_cons, List.foldl_nil]; unfold sleepS; rw [h]
  | false => simp only [List.filter, h, List.foldl_nil]; unfold sleepS; rw [h]; rfl
theorem allQ_iff {G U : Nat → Int} {g : Nat} : ∀ n, allQ G U g n = true ↔ ∀ i, i < n → G i = (g : Int) → 7 ≤ U (i * 12 + 11)
 | 0 => ⟨fun _ i h => absurd h (Nat.not_lt_zero _), fun _ => rfl⟩
 | n + 1 => by
  rw [allQ, Bool.and_eq_true, allQ_iff n, Bool.or_eq_true, Bool.not_eq_true', decide_eq_false_iff_not, decide_eq_true_iff]
  constructor
  · rintro ⟨h1, h2⟩ i hi hg
    by_cases e : i = n
    · subst e; exact h2.resolve_left (fun q => q hg)
    · exact h1 i (by omega) hg
  · intro h
    refine ⟨fun i hi => h i (by omega), ?_⟩
    by_cases e : G n = (g : Int)
    · exact .inr (h n (by omega) e)
    · exact .inl e
theorem rest_iff {G U : Nat → Int} {g n : Nat} (hq : ∀ j, j < n → G j = (g : Int) → U (j * 12 + 11) ≤ 7) : (memG G n g).any (fun j => U (j * 12 + 11) != 7) = !allQ G U g n := by
 rw [Bool.eq_iff_iff, List.any_eq_true, Bool.not_eq_true', ← Bool.not_eq_true, allQ_iff]
 constructor
 · rintro ⟨j, hj, h⟩ h2
   obtain ⟨h3, h4⟩ := memG_mem.1 hj
   have := hq j h3 h4
   have := h2 j h3 h4
   have h5 : U (j * 12 + 11) ≠ 7 := by simpa using h
   omega
 · intro h
   by_cases e : ∃ j, j ∈ memG G n g ∧ (U (j * 12 + 11) != 7) = true
   · exact e
   · exact absurd (fun i hi hg => by
      by_cases e7 : U (i * 12 + 11) = 7
      · omega
      · exact absurd ⟨i, memG_mem.2 ⟨hi, hg⟩, by simpa using e7⟩ e) h
def fsU (P : Nat → Bool) (n : Nat) (U : Nat → Int) : Nat → Int := mapR (fun i V => bif P i then slV V else V) U n
theorem fsU_row {P : Nat → Bool} {n : Nat} {U : Nat → Int} {j : Nat} (hj : j < n) : ∀ i, i < 12 → colOf (fsU P n U) i j = (bif P j then slV (fun i => U (j * 12 + i)) else fun i => U (j * 12 + i)) i := fun i hi => by unfold colOf fsU; rw [mapR_in hj hi]
theorem fsU_set {P P' : Nat → Bool} {n : Nat} {U : Nat → Int} {j : Nat} (hj : j < n) (hP : ∀ k, k < n → P' k = (P k || decide (k = j))) : ∀ i k, i < 12 → k < n → setC (setC (setC (colOf (fsU P n U)) 11 j 8) 6 j 0) 7 j 0 i k = colOf (fsU P' n U) i k := fun i k hi hk => by
 rw [fsU_row hk i hi, hP k hk]
 unfold setC
 by_cases e : k = j
 · subst e
   rw [decide_eq_true rfl, Bool.or_true]
   show _ = slV (fun i => U (k * 12 + i)) i
   unfold slV
   by_cases e7 : i = 7
   · subst e7; simp
   · by_cases e6 : i = 6
     · subst e6; simp
     · by_cases e11 : i = 11
       · subst e11; simp
       · simp only [e7, e6, e11, false_and, if_false]
         rw [fsU_row hk i hi]
         cases P k with
         | false => rfl
         | true => show slV (fun i => U (k * 12 + i)) i = U (k * 12 + i); unfold slV; simp [e7, e6, e11]
 · rw [if_neg (fun q => e q.2), if_neg (fun q => e q.2), if_neg (fun q => e q.2), fsU_row hk i hi, decide_eq_false e, Bool.or_false]
end Go.Proofs.YtmnhankcbkfhaaaGreatDoor
