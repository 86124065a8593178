/- Texts of a proof. -/
import Derived.Test.YtalkkjhehndaoaaGreatB17
import Derived.Test.YtalkkjhehndaoaaGreatS7a
import Derived.Test.YtalkkjhehndaoaaGreatS9l
import Derived.Test.YtalkkjhehndaoaaGreatB20
import Derived.Deep.RegionHeld3
import Derived.Deep.DeepCutAuto
import Derived.Test.YtalkkjhehndaoaaGreatB13
import Derived.Test.YtalkkjhehndaoaaGreatSPdk
import Derived.Test.YtalkkjhehndaoaaGreatB4
set_option maxHeartbeats 16000000
set_option maxRecDepth 20000
namespace Go.Proofs.YtalkkjhehndaoaaGreat
open Go.RowKit
set_option linter.unusedVariables false
set_option linter.unusedSimpArgs false
def valN (U G : Nat → Int) (i : Nat) : Int :=
 bif decide (U (i * 12 + 8) = 0) then -1 else bif decide (atOf (numS U G i).2 (G i) (numS U G i).2.length < 0) then ((numS U G i).2.length : Int) else atOf (numS U G i).2 (G i) (numS U G i).2.length
theorem numS_1 (U G : Nat → Int) (i : Nat) : (numS U G (i + 1)).1 = (numS U G i).1 ++ [valN U G i] := by
 unfold valN
 by_cases h : U (i * 12 + 8) = 0
 · rw [numS_z h, decide_eq_true h]; rfl
 · rw [decide_eq_false h]
   by_cases k : atOf (numS U G i).2 (G i) (numS U G i).2.length < 0
   · rw [numS_n h k, decide_eq_true k]; rfl
   · rw [numS_o h k, decide_eq_false k]; rfl
theorem ofL_num (U G : Nat → Int) : ∀ n i, i < n → ofL (numS U G n).1 i = valN U G i
 | 0, i, h => by omega
 | n + 1, i, h => by
  rw [numS_1]
  have hl := (numS_len U G n).1
  by_cases e : i = n
  · subst e; rw [ofL_r (by omega), hl, Nat.sub_self]; rfl
  · rw [ofL_l (by omega)]; exact ofL_num U G n i (by omega)
theorem val_cases (U G : Nat → Int) (i : Nat) :
 (valN U G i = -1 ∧ (numS U G (i + 1)).2.length = (numS U G i).2.length) ∨ (U (i * 12 + 8) ≠ 0 ∧ valN U G i = ((numS U G i).2.length : Int) ∧ (numS U G (i + 1)).2.length = (numS U G i).2.length + 1) ∨ (U (i * 12 + 8) ≠ 0 ∧ 0 ≤ valN U G i ∧ valN U G i < ((numS U G i).2.length : Int) ∧ (numS U G (i + 1)).2.length = (numS U G i).2.length) := by
 unfold valN
 by_cases h : U (i * 12 + 8) = 0
 · rw [numS_z h, decide_eq_true h]; exact .inl ⟨rfl, rfl⟩
 · rw [decide_eq_false h]
   by_cases k : atOf (numS U G i).2 (G i) (numS U G i).2.length < 0
   · rw [numS_n h k, decide_eq_true k]; exact .inr (.inl ⟨h, rfl, by rw [List.length_append]; rfl⟩)
   · rw [numS_o h k, decide_eq_false k]
     refine .inr (.inr ⟨h, ?_, ?_, rfl⟩)
     · show 0 ≤ atOf _ _ _; omega
     · show atOf (numS U G i).2 (G i) (numS U G i).2.length < _
       rcases atOf_bd (numS U G i).2 (G i) (numS U G i).2.length with q | q <;> omega
theorem awP_g (l : List Bool) (g : Int) (s : Bool) : (awP l g s).length = if g = (l.length : Int) then l.length + 1 else l.length := by
 unfold awP
 by_cases e : g = (l.length : Int)
 · rw [if_pos e, decide_eq_true e]
   cases decide (0 ≤ g) <;> simp
 · rw [if_neg e, decide_eq_false e]
   cases decide (0 ≤ g) <;> simp
theorem aw_len (U Gr G : Nat → Int) (n : Nat) (hG : ∀ i, i < n → G i = valN U Gr i) : ∀ i, i ≤ n → (awL U G i).length = (numS U Gr i).2.length
 | 0, _ => rfl
 | i + 1, h => by
  have ih := aw_len U Gr G n hG i (by omega)
  rw [awL, awP_g, ih, hG i (by omega)]
  rcases val_cases U Gr i with ⟨a, b⟩ | ⟨_, a, b⟩ | ⟨_, a, b, c⟩
  · rw [if_neg (by omega), b]
  · rw [if_pos (by omega), b]
  · rw [if_neg (by omega), c]
theorem num2_mono (U Gr : Nat → Int) : ∀ j i, i ≤ j → (numS U Gr i).2.length ≤ (numS U Gr j).2.length
 | 0, i, h => by
  obtain rfl : i = 0 := by omega
  exact Nat.le_refl _
 | j + 1, i, h => by
  by_cases e : i = j + 1
  · rw [e]; exact Nat.le_refl _
  · have := num2_mono U Gr j i (by omega)
    rcases val_cases U Gr j with ⟨a, b⟩ | ⟨_, a, b⟩ | ⟨_, a, b, c⟩ <;> omega
theorem grp_bd (U Gr G : Nat → Int) (n : Nat) (hG : ∀ i, i < n → G i = valN U Gr i) : ∀ i, i < n → (-1 ≤ G i ∧ G i ≤ ((awL U G i).length : Int)) ∧ G i < ((awL U G n).length : Int) ∧ (0 ≤ G i → U (i * 12 + 8) ≠ 0) := by
 intro i hi
 have h1 := aw_len U Gr G n hG i (by omega)
 have h2 := aw_len U Gr G n hG n (Nat.le_refl _)
 have h3 := num2_mono U Gr n (i + 1) (by omega)
 have h4 := num2_mono U Gr (i + 1) i (by omega)
 rw [h1, h2, hG i hi]
 rcases val_cases U Gr i with ⟨a, b⟩ | ⟨m, a, b⟩ | ⟨m, a, b, c⟩
 · exact ⟨by omega, by omega, fun q => by omega⟩
 · exact ⟨by omega, by omega, fun _ => m⟩
 · exact ⟨by omega, by omega, fun _ => m⟩
theorem live_ok {U C : Nat → Int} {n m : Nat} (h : ∀ k, k < m → CtP n (C (k * 5)) (C (k * 5 + 1)) (C (k * 5 + 2)) (C (k * 5 + 3)) (C (k * 5 + 4))) : ∀ k, k ≤ m → Fives (CtP n) (liveL U C k)
 | 0, _ => Fives.nil _
 | k + 1, hk => by
  have ih := live_ok (U := U) h k (by omega)
  cases e : liveC U C k with
  | true => rw [liveL_yes e]; exact ih.app (Fives.one (h k (by omega)))
  | false => rw [liveL_no e]; exact ih
theorem con_P (C : Nat → Nat → Int) {n m : Nat} (e : (conL C n).length = m * 5) : ∀ k, k < m → CtP n (ofL (conL C n) (k * 5)) (ofL (conL C n) (k * 5 + 1)) (ofL (conL C n) (k * 5 + 2)) (ofL (conL C n) (k * 5 + 3)) (ofL (conL C n) (k * 5 + 4)) := by
 obtain ⟨m', e', p⟩ := conOut_ok C n (n := n)
 obtain rfl : m' = m := by unfold conL at e; omega
 exact p
def allQ (G U : Nat → Int) (g : Nat) : Nat → Bool
 | 0 => true
 | i + 1 => allQ G U g i && (!decide (G i = (g : Int)) || decide (7 ≤ U (i * 12 + 11)))
def slV (V : Nat → Int) : Nat → Int := fun i => if i = 7 then 0 else if i = 6 then 0 else if i = 11 then 8 else V i
def slF (G : Nat → Int) (g : Nat) : Nat → (Nat → Int) → Nat → Int := fun i V => bif decide (G i = (g : Int)) then slV V else V
def sleepS (G : Nat → Int) (A : Nat → Bool) (n g : Nat) (U : Nat → Int) : Nat → Int := bif A g && allQ G U g n then mapR (slF G g) U n else U
def sleepN (G : Nat → Int) (A : Nat → Bool) (n : Nat) (U : Nat → Int) : Nat → Nat → Int
 | 0 => U
 | g + 1 => sleepS G A n g (sleepN G A n U g)
theorem mapR_sl {f : Nat → (Nat → Int) → Nat → Int} {U : Nat → Int} {k : Nat} (h : f k (fun j => U (k * 12 + j)) = slV (fun j => U (k * 12 + j))) : (fun r => if r = k * 12 + 7 then 0 else if r = k * 12 + 6 then 0 else if r = k * 12 + 11 then 8 else mapR f U k r) = mapR f U (k + 1) := by
 rw [← mapR_set, h]
 funext q
 unfold putRow slV
 by_cases e : k * 12 ≤ q ∧ q < k * 12 + 12
 · rw [if_pos e]
   obtain ⟨d, rfl⟩ : ∃ d, q = k * 12 + d := ⟨q - k * 12, by omega⟩
   rw [Nat.add_sub_cancel_left, mapR_row]
   by_cases e1 : d = 7
   · rw [if_pos (by omega), if_pos e1]
   · rw [if_neg (by omega), if_neg e1]
     by_cases e2 : d = 6
     · rw [if_pos (by omega), if_pos e2]
     · rw [if_neg (by omega), if_neg e2]
       by_cases e3 : d = 11
       · rw [if_pos (by omega), if_pos e3]
       · rw [if_neg (by omega), if_neg e3]
 · rw [if_neg e, if_neg (by omega), if_neg (by omega), if_neg (by omega)]
def slU (b : Bool) (G : Nat → Int) (g : Nat) (U : Nat → Int) (i : Nat) : Nat → Int := bif b then mapR (slF G g) U i else U
theorem l9Sleep_any (a : Option Addr) (n c : Nat) (U : Nat → Int) (ag : Option Addr) (cg : Nat) (G : Nat → Int) (aa : Option Addr) (na ca : Nat) (A : Nat → Bool) (w : World) (h : Flat w a (n * 12) U) (hn : n ≤ 1048576) (hna : na ≤ 1048576) (hG2 : Flat w ag (n * 1) G) (hA3 : FlatB w aa na A) :
 Calls Tryz.prog 86 #[.slice a n c, .slice ag n cg, .slice aa na ca] w fun e w' => ∃ a1 c1, e = .returned (.slice a1 n c1) ∧ OutL w w' 34 12 a1 n c1 (sleepN G A n U na) := by
 have hset := cset_map
 go_enter Tryz.func86, Tryz.ntmps86
 go_upto_region 1 with fail
 go_cut [7] (fun s0 wc => ∃ a1 c1, s0 = .slice a1 n c1 ∧ OutL w wc 34 12 a1 n c1 U)
 case first =>
  go_wp2_with (go_at_call 99; refine (l8Copy_any a n c U _ h hn).mono ?_; rintro e w3 ⟨a1, c1, rfl, hO⟩)
  go_meet
  exact ⟨_, _, rfl, hO⟩
 case rest =>
 obtain ⟨a1, c1, rfl, hO⟩ := hcut
 go_upto_region 3 with fail
 go_loopw [8, 9, 10, 11] (fun s _ _ _ wr => ∃ g : Nat, g ≤ na ∧ s = .int .i64 (g : Int) ∧ OutL w wr 34 12 a1 n c1 (sleepN G A n U g)) (fun s _ _ _ _ => na - (intOf s).toNat)
 case atStart => exact ⟨0, Nat.zero_le _, rfl, hO⟩
 case round =>
  clear hO
  obtain ⟨g, hg, rfl, hO⟩ := hrel
  by_cases hlt : g < na
  · have hgn : (g : Int) < (na : Int) := by omega
    obtain ⟨b3, o3, e3, hbl3, hc3⟩ := hA3 (by omega)
    have r3 := (hO.bel.cell (p := ⟨b3, o3 + g, none⟩) hbl3).trans (hc3 g hlt)
    clear hc3
    subst e3
    obtain ⟨aw, haw⟩ : ∃ z, A g = z := ⟨_, rfl⟩
    rw [haw] at r3
    obtain ⟨X, hX⟩ : ∃ X, sleepN G A n U g = X := ⟨_, rfl⟩
    have HN : Shut (sleepN G A n U (g + 1) = sleepS G A n g X) := by show _ = _; rw [sleepN, hX]
    rw [hX] at hO
    clear hX
    cases aw with
    | false =>
     have HNO : Shut (sleepN G A n U (g + 1) = X) := by show _ = _; rw [HN.out]; unfold sleepS; rw [haw]; rfl
     clear haw
     go_wp2_with fail
     go_roundw
     case rel => exact ⟨g + 1, by omega, by go_num, by rw [HNO.out]; exact hO⟩
     case measure => simp [intOf]; omega
    | true =>
     have HYE : Shut (sleepN G A n U (g + 1) = slU (allQ G X g n) G g X n) := by show _ = _; rw [HN.out]; unfold sleepS slU; rw [haw]; rfl
     clear haw HN
     go_upto_region 8 with fail
     go_loopw [9, 10] (fun s9 s10 wq => ∃ i : Nat, i ≤ n ∧ s10 = .int .i64 (i : Int) ∧ s9 = .bool (allQ G X g i) ∧ wq = wr) (fun _ s10 _ => n - (intOf s10).toNat)
     case atStart => exact ⟨0, Nat.zero_le _, rfl, rfl, rfl⟩
     case round =>
      obtain ⟨i, hi, rfl, rfl, rfl⟩ := hrel
      by_cases hil : i < n
      · have hin : (i : Int) < (n : Int) := by omega
        obtain ⟨b2, o2, e2, hbl2, hc2⟩ := (hG2.below hO.bel) (by omega)
        have r2 := hc2 i (by omega)
        clear hc2
        subst e2
        obtain ⟨gb, rfl, hg1, hg2⟩ := hO.own.loc (by omega)
        have u11 := hO.own.cellq (q := i * 12 + 11) (by omega)
        obtain ⟨AL, hAL⟩ : ∃ b, allQ G X g i = b := ⟨_, rfl⟩
        have HQ : Shut (allQ G X g (i + 1) = (AL && (!decide (G i = (g : Int)) || decide (7 ≤ X (i * 12 + 11))))) := by show _ = _; rw [allQ, hAL]
        rw [hAL]
        clear hAL
        cases AL with
        | false =>
         go_wp2_with fail
         go_roundw
         case rel => exact ⟨i + 1, by omega, by go_num, congrArg Value.bool (by rw [HQ.out]; rfl), by trivial⟩
         case measure => simp [intOf]; omega
        | true =>
         by_cases e : G i = (g : Int)
         · have e4 : (G i != (g : Int)) = false := by simp [e]
           have e5 : (G i == (g : Int)) = true := by simp [e]
           have E : Shut (G i = (g : Int)) := e
           clear e
           by_cases q7 : 7 ≤ X (i * 12 + 11)
           · go_wp2_with fail
             go_roundw
             case rel => exact ⟨i + 1, by omega, by go_num, congrArg Value.bool (by rw [HQ.out, decide_eq_true E.out, decide_eq_true q7]; rfl), by trivial⟩
             case measure => simp [intOf]; omega
           · go_wp2_with fail
             go_roundw
             case rel => exact ⟨i + 1, by omega, by go_num, congrArg Value.bool (by rw [HQ.out, decide_eq_true E.out, decide_eq_false q7]; rfl), by trivial⟩
             case measure => simp [intOf]; omega
         · have e4 : (G i != (g : Int)) = true := by simp [e]
           have e5 : (G i == (g : Int)) = false := by simp [e]
           go_wp2_with fail
           go_roundw
           case rel => exact ⟨i + 1, by omega, by go_num, congrArg Value.bool (by rw [HQ.out, decide_eq_false e]; rfl), by trivial⟩
           case measure => simp [intOf]; omega
      · obtain rfl : i = n := by omega
        obtain ⟨AL, hAL⟩ : ∃ b, allQ G X g i = b := ⟨_, rfl⟩
        rw [hAL] at HYE
        rw [hAL]
        clear hAL
        go_upto_region 12 with fail
        go_loopw [11] (fun s wq => ∃ k : Nat, k ≤ i ∧ s = .int .i64 (k : Int) ∧ OutL w wq 34 12 a1 i c1 (slU AL G g X k)) (fun s _ => i - (intOf s).toNat)
        case atStart => exact ⟨0, Nat.zero_le _, rfl, by unfold slU; cases AL; exact hO; rw [mapR_0]; exact hO⟩
        case round =>
         clear hO
         obtain ⟨k, hk, rfl, hO⟩ := hrel
         by_cases hkl : k < i
         · have hkn : (k : Int) < (i : Int) := by omega
           cases AL with
           | false =>
            go_wp2_with fail
            go_roundw
            case rel => exact ⟨k + 1, by omega, by go_num, hO⟩
            case measure => simp [intOf]; omega
           | true =>
            obtain ⟨b2, o2, e2, hbl2, hc2⟩ := (hG2.below hO.bel) (by omega)
            have r2 := hc2 k (by omega)
            clear hc2
            subst e2
            by_cases e : G k = (g : Int)
            · have e5 : (G k == (g : Int)) = true := by simp [e]
              have e6 : (G k = (g : Int)) = True := eq_true e
              have HS : Shut ((fun r => if r = k * 12 + 7 then 0 else if r = k * 12 + 6 then 0 else if r = k * 12 + 11 then 8 else mapR (slF G g) X k r) = mapR (slF G g) X (k + 1)) := mapR_sl (by unfold slF; rw [decide_eq_true e]; rfl)
              clear e
              obtain ⟨gb, rfl, hg1, hg2⟩ := hO.own.loc (by omega)
              have hO' : OutL w wr 34 12 (some ⟨gb, 0, none⟩) i c1 (mapR (slF G g) X k) := hO
              have uf := hO'.own.fro
              have u6 := hO'.own.cellq (q := k * 12 + 6) (by omega)
              have u7 := hO'.own.cellq (q := k * 12 + 7) (by omega)
              have u11 := hO'.own.cellq (q := k * 12 + 11) (by omega)
              go_wp2_with fail
              have q1 := ((hO'.own.setq (k * 12 + 11) (by omega) 8).setq (k * 12 + 6) (by omega) 0).setq (k * 12 + 7) (by omega) 0
              rw [HS.out] at q1
              have qB : Below w.heap.size w (((wr.setCell ⟨gb, k * 12 + 11, none⟩ (.int .i64 8)).setCell ⟨gb, k * 12 + 6, none⟩ (.int .i64 0)).setCell ⟨gb, k * 12 + 7, none⟩ (.int .i64 0)) := ((hO'.bel.setCell hg1 _).setCell hg1 _).setCell hg1 _
              go_roundw
              case rel => exact ⟨k + 1, by omega, by go_num, qB, q1⟩
              case measure => simp [intOf]; omega
            · have e5 : (G k == (g : Int)) = false := by simp [e]
              have HNO : Shut (mapR (slF G g) X (k + 1) = mapR (slF G g) X k) := mapR_same (fun j hj => by unfold slF; rw [decide_eq_false e]; rfl)
              go_wp2_with fail
              go_roundw
              case rel => exact ⟨k + 1, by omega, by go_num, by show OutL _ _ _ _ _ _ _ (mapR (slF G g) X (k + 1)); rw [HNO.out]; exact hO⟩
              case measure => simp [intOf]; omega
         · obtain rfl : k = i := by omega
           go_wp2_with fail
           go_roundw
           case rel => exact ⟨g + 1, by omega, by go_num, by rw [HYE.out]; exact hO⟩
           case measure => simp [intOf]; omega
  · obtain rfl : g = na := by omega
    go_wp2_with fail
    go_ret
    exact ⟨_, _, rfl, hO⟩
theorem wake_ok {V : Nat → Int} (b : Bool) (h : BOk V) : BOk (wakeV b V) := by
 unfold wakeV
 cases hl : (b && decide (8 ≤ V 11)) with
 | false => exact h
 | true =>
  simp only [Bool.and_eq_true, decide_eq_true_eq] at hl
  obtain ⟨a0, a1, a2, a3, a4, a5, a6, a7, a8, a9, b0, b1⟩ := h
  have m8 : V 8 ≠ 0 := fun e => by have := b0 e; omega
  show BOk (setV V 11 0)
  have e : ∀ j, j ≠ 11 → setV V 11 0 j = V j := fun j hj => setV_ne hj
  have eb : setV V 11 0 11 = 0 := setV_eq
  generalize setV V 11 0 = W at e eb
  have w0 := e 0 (by decide)
  have w1 := e 1 (by decide)
  have w2 := e 2 (by decide)
  have w3 := e 3 (by decide)
  have w4 := e 4 (by decide)
  have w5 := e 5 (by decide)
  have w6 := e 6 (by decide)
  have w7 := e 7 (by decide)
  have w8 := e 8 (by decide)
  have w9 := e 9 (by decide)
  have wa := e 10 (by decide)
  exact ⟨by rw [w0]; exact a0, by rw [w1, w2, w3]; exact a1, by rw [w4]; exact a2, by rw [w5]; exact a3, by rw [w6]; exact a4, by rw [w7]; exact a5, by rw [w8]; exact a6, by rw [w9]; exact a7, by rw [wa]; exact a8, by rw [eb]; omega, by rw [eb]; exact fun _ => rfl, .inl ⟨by rw [w8]; exact m8, by rw [eb]; decide⟩⟩
theorem sl_ok {V : Nat → Int} (h : BOk V) (m8 : V 8 ≠ 0) : BOk (slV V) := by
 obtain ⟨a0, a1, a2, a3, a4, a5, a6, a7, a8, a9, b0, b1⟩ := h
 have e : ∀ j, j ≠ 7 → j ≠ 6 → j ≠ 11 → slV V j = V j := fun j h1 h2 h3 => by unfold slV; rw [if_neg h1, if_neg h2, if_neg h3]
 have e7 : slV V 7 = 0 := rfl
 have e6 : slV V 6 = 0 := rfl
 have eb : slV V 11 = 8 := rfl
 generalize slV V = W at e e7 e6 eb
 have w0 := e 0 (by decide) (by decide) (by decide)
 have w1 := e 1 (by decide) (by decide) (by decide)
 have w2 := e 2 (by decide) (by decide) (by decide)
 have w3 := e 3 (by decide) (by decide) (by decide)
 have w4 := e 4 (by decide) (by decide) (by decide)
 have w5 := e 5 (by decide) (by decide) (by decide)
 have w8 := e 8 (by decide) (by decide) (by decide)
 have w9 := e 9 (by decide) (by decide) (by decide)
 have wa := e 10 (by decide) (by decide) (by decide)
 exact ⟨by rw [w0]; exact a0, by rw [w1, w2, w3]; exact a1, by rw [w4]; exact a2, by rw [w5]; exact a3, by rw [e6]; omega, by rw [e7]; omega, by rw [w8]; exact a6, by rw [w9]; exact a7, by rw [wa]; exact a8, by rw [eb]; omega, by rw [w8]; exact fun q => absurd q m8, .inr ⟨e6, e7⟩⟩
theorem Bods.wake {n : Nat} {U G : Nat → Int} {A : Nat → Bool} (h : Bods n U) : Bods n (mapR (fun i V => wakeV (awK G A i) V) U n) :=
 h.map (fun k hk => (wake_ok _ (h.row hk)).to) (fun k hk => by show wakeV _ (fun j => U (k * 12 + j)) 0 = _; unfold wakeV; cases (awK G A k && decide (8 ≤ (fun j => U (k * 12 + j)) 11)) <;> rfl)
theorem slF_8 (G : Nat → Int) (g i : Nat) (V : Nat → Int) : slF G g i V 8 = V 8 := by unfold slF; cases decide (G i = (g : Int)) <;> rfl
theorem Bods.sleepS {n : Nat} {U G : Nat → Int} {A : Nat → Bool} (h : Bods n U) (hG : ∀ k, k < n → 0 ≤ G k → U (k * 12 + 8) ≠ 0) (g : Nat) : Bods n (sleepS G A n g U) ∧ ∀ k, k < n → sleepS G A n g U (k * 12 + 8) = U (k * 12 + 8) := by
 unfold Go.Proofs.YtalkkjhehndaoaaGreat.sleepS
 cases (A g && allQ G U g n) with
 | false => exact ⟨h, fun k hk => rfl⟩
 | true =>
  refine ⟨h.map (fun k hk => ?_) (fun k hk => ?_), fun k hk => (mapR_in hk (by omega)).trans (slF_8 G g k _)⟩
  · unfold slF
    by_cases e : G k = (g : Int)
    · rw [decide_eq_true e]; exact (sl_ok (h.row hk) (hG k hk (by omega))).to
    · rw [decide_eq_false e]; exact h.ok k hk
  · unfold slF; cases decide (G k = (g : Int)) <;> rfl
theorem Bods.sleep {n : Nat} {U G : Nat → Int} {A : Nat → Bool} (h : Bods n U) (hG : ∀ k, k < n → 0 ≤ G k → U (k * 12 + 8) ≠ 0) : ∀ g, Bods n (sleepN G A n U g) ∧ ∀ k, k < n → sleepN G A n U g (k * 12 + 8) = U (k * 12 + 8)
 | 0 => ⟨h, fun k hk => rfl⟩
 | g + 1 => by
  obtain ⟨h1, h2⟩ := Bods.sleep h hG g
  obtain ⟨q1, q2⟩ := Bods.sleepS (A := A) h1 (fun k hk h0 => by rw [h2 k hk]; exact hG k hk h0) g
  exact ⟨q1, fun k hk => (q2 k hk).trans (h2 k hk)⟩
theorem td256q {x B : Int} (h : -(B * 256) ≤ x ∧ x ≤ B * 256) : -B ≤ x.tdiv 256 ∧ x.tdiv 256 ≤ B := by
 have e := Int.mul_tdiv_add_tmod x 256
 have a := Int.tmod_lt_of_pos x (show (0 : Int) < 256 by decide)
 have b : -256 < x.tmod 256 := Int.lt_tmod_of_pos x (by decide)
 omega
theorem td256p {x : Int} (h : 0 ≤ x) : 0 ≤ x.tdiv 256 := Int.tdiv_nonneg h (by decide)
theorem dot_bd {u v x y : Int} (hu : -40000000 ≤ u ∧ u ≤ 40000000) (hv : -40000000 ≤ v ∧ v ≤ 40000000) (bx : -256 ≤ x ∧ x ≤ 256) (bY : -256 ≤ y ∧ y ≤ 256) : -80000000 ≤ fc ((u * x + v * y).tdiv 256) ∧ fc ((u * x + v * y).tdiv 256) ≤ 80000000 := by
 have p := mul_bd (a := u) (b := x) (A := 40000000) (B := 256) hu bx
 have q := mul_bd (a := v) (b := y) (A := 40000000) (B := 256) hv bY
 have t := td256q (x := u * x + v * y) (B := 80000000) (by omega)
 rw [fc_id (by omega) (by omega)]; exact t
def mxB (V1 V2 : Nat → Int) : Int := if V1 9 < V2 9 then V2 9 else V1 9
def mnR (V1 V2 : Nat → Int) : Int := if V2 10 < V1 10 then V2 10 else V1 10
def pN (V1 V2 : Nat → Int) (x y : Int) (bo : Bool) : Int := bif bo then closeV V1 V2 x y + (closeV V1 V2 x y * mxB V1 V2).tdiv 256 else closeV V1 V2 x y
def pP (V1 V2 : Nat → Int) (x y : Int) (bo : Bool) : Int := togV V1 V2 (pN V1 V2 x y bo)
def pD (V1 V2 : Nat → Int) (x y : Int) : Int := fc (((spX V1 - spX V2) * (-y) + (spY V1 - spY V2) * x).tdiv 256)
def pM (V1 V2 : Nat → Int) (x y : Int) (bo : Bool) : Int := (pP V1 V2 x y bo * mnR V1 V2).tdiv 256
def pA (V1 V2 : Nat → Int) (x y : Int) (bo : Bool) : Int := clampZ (pM V1 V2 x y bo) (togV V1 V2 (pD V1 V2 x y))
def puX (V1 V2 : Nat → Int) (x y : Int) (bo : Bool) : Int := if closeV V1 V2 x y ≤ 0 then 0 else clampZ 20000000 ((pP V1 V2 x y bo * x + pA V1 V2 x y bo * (-y)).tdiv 256)
def puY (V1 V2 : Nat → Int) (x y : Int) (bo : Bool) : Int := if closeV V1 V2 x y ≤ 0 then 0 else clampZ 20000000 ((pP V1 V2 x y bo * y + pA V1 V2 x y bo * x).tdiv 256)
theorem togV_nn (V1 V2 : Nat → Int) (n : Int) (a0 : 0 ≤ V1 8) (a1 : 0 ≤ V2 8) (h : 0 ≤ n) : 0 ≤ togV V1 V2 n := by
 unfold togV; split
 · exact Int.mul_nonneg h (by omega)
 · exact Int.tdiv_nonneg (Int.mul_nonneg (Int.mul_nonneg h a0) a1) (by omega)
theorem close_fixed (V1 V2 : Nat → Int) (x y : Int) (h1 : V1 8 = 0) (h2 : V2 8 = 0) : closeV V1 V2 x y = 0 := by
 unfold closeV spX spY; rw [if_pos h1, if_pos h1, if_pos h2, if_pos h2]; simp [fc, clampZ]
theorem push_bd (V1 V2 : Nat → Int) (x y : Int) (bo : Bool) (a0 : 0 ≤ V1 8 ∧ V1 8 ≤ 1000) (a1 : 0 ≤ V2 8 ∧ V2 8 ≤ 1000) (b6 : -20000000 ≤ V1 6 ∧ V1 6 ≤ 20000000) (b7 : -20000000 ≤ V1 7 ∧ V1 7 ≤ 20000000) (d6 : -20000000 ≤ V2 6 ∧ V2 6 ≤ 20000000) (d7 : -20000000 ≤ V2 7 ∧ V2 7 ≤ 20000000) (bx : -256 ≤ x ∧ x ≤ 256) (bY : -256 ≤ y ∧ y ≤ 256)
 (e9 : 0 ≤ V1 9 ∧ V1 9 ≤ 256) (f9 : 0 ≤ V2 9 ∧ V2 9 ≤ 256) (e10 : 0 ≤ V1 10 ∧ V1 10 ≤ 256) (f10 : 0 ≤ V2 10 ∧ V2 10 ≤ 256) (hc : 0 < closeV V1 V2 x y) :
 closeV V1 V2 x y ≤ 100000000 ∧ (0 ≤ mxB V1 V2 ∧ mxB V1 V2 ≤ 256) ∧ (0 ≤ mnR V1 V2 ∧ mnR V1 V2 ≤ 256) ∧ (0 < pN V1 V2 x y bo ∧ pN V1 V2 x y bo ≤ 200000000) ∧ (0 ≤ pP V1 V2 x y bo ∧ pP V1 V2 x y bo ≤ 200000000000000) ∧ (-100000000 ≤ pD V1 V2 x y ∧ pD V1 V2 x y ≤ 100000000) ∧ (-100000000000000 ≤ togV V1 V2 (pD V1 V2 x y) ∧ togV V1 V2 (pD V1 V2 x y) ≤ 100000000000000) ∧ (0 ≤ pM V1 V2 x y bo ∧ pM V1 V2 x y bo ≤ 200000000000000) ∧ (-200000000000000 ≤ pA V1 V2 x y bo ∧ pA V1 V2 x y bo ≤ 200000000000000) := by
 have sx1 := spX_bd V1 b6
 have sy1 := spY_bd V1 b7
 have sx2 := spX_bd V2 d6
 have sy2 := spY_bd V2 d7
 have hcb : -80000000 ≤ closeV V1 V2 x y ∧ closeV V1 V2 x y ≤ 80000000 := dot_bd (by omega) (by omega) bx bY
 have hD : -80000000 ≤ pD V1 V2 x y ∧ pD V1 V2 x y ≤ 80000000 := dot_bd (by omega) (by omega) (by omega) bx
 have hB : 0 ≤ mxB V1 V2 ∧ mxB V1 V2 ≤ 256 := by unfold mxB; split <;> omega
 have hR : 0 ≤ mnR V1 V2 ∧ mnR V1 V2 ≤ 256 := by unfold mnR; split <;> omega
 have hN : 0 < pN V1 V2 x y bo ∧ pN V1 V2 x y bo ≤ 160000000 := by
  have q := mul_bd (a := closeV V1 V2 x y) (b := mxB V1 V2) (A := 80000000) (B := 256) (by omega) (by omega)
  have q1 := td256q (x := closeV V1 V2 x y * mxB V1 V2) (B := 80000000) (by omega)
  have q2 := td256p (x := closeV V1 V2 x y * mxB V1 V2) (Int.mul_nonneg (by omega) hB.1)
  unfold pN; cases bo
  · simp only [cond_false]; omega
  · simp only [cond_true]; omega
 have hP : 0 ≤ pP V1 V2 x y bo ∧ pP V1 V2 x y bo ≤ 160000000000000 := by
  have q := togV_bd V1 V2 (pN V1 V2 x y bo) 160000000 a0 a1 (by omega) (by omega)
  have q2 := togV_nn V1 V2 (pN V1 V2 x y bo) a0.1 a1.1 (by omega)
  unfold pP; omega
 have hT := togV_bd V1 V2 (pD V1 V2 x y) 80000000 a0 a1 hD (by omega)
 have hM : 0 ≤ pM V1 V2 x y bo ∧ pM V1 V2 x y bo ≤ 160000000000000 := by
  have q := mul_bd (a := pP V1 V2 x y bo) (b := mnR V1 V2) (A := 160000000000000) (B := 256) (by omega) (by omega)
  have q1 := td256q (x := pP V1 V2 x y bo * mnR V1 V2) (B := 160000000000000) (by omega)
  have q2 := td256p (x := pP V1 V2 x y bo * mnR V1 V2) (Int.mul_nonneg hP.1 hR.1)
  unfold pM; omega
 have hA := clampZ_bd (l := pM V1 V2 x y bo) (togV V1 V2 (pD V1 V2 x y)) hM.1
 have hA' : -200000000000000 ≤ pA V1 V2 x y bo ∧ pA V1 V2 x y bo ≤ 200000000000000 := by unfold pA; omega
 exact ⟨by omega, hB, hR, by omega, by omega, by omega, by omega, by omega, hA'⟩
theorem l8Push_z (V1 V2 : Nat → Int) (x y k c : Int) (bo : Bool) (w : World) (b6 : -20000000 ≤ V1 6 ∧ V1 6 ≤ 20000000) (b7 : -20000000 ≤ V1 7 ∧ V1 7 ≤ 20000000) (d6 : -20000000 ≤ V2 6 ∧ V2 6 ≤ 20000000) (d7 : -20000000 ≤ V2 7 ∧ V2 7 ≤ 20000000) (bx : -256 ≤ x ∧ x ≤ 256) (bY : -256 ≤ y ∧ y ≤ 256) (ec : closeV V1 V2 x y = c) (hc : c ≤ 0) :
 Calls Tryz.prog 114 #[bodyW V1, bodyW V2, s3 x y k, .bool bo] w fun e w' => e = .returned (vv 0 0) ∧ Below w.heap.size w w' := by
 have hset := cset_map
 go_enter Tryz.func114, Tryz.ntmps114
 go_wp2_with (go_at_call 127; refine (l8Closing_q V1 V2 x y k _ _ (by omega) (by omega) (by omega) (by omega) (by omega) (by omega) (by with_reducible assumption)).mono ?_; rintro e w1 ⟨rfl, hb1⟩; obtain ⟨hc1, hf1⟩ := bcell hb1; have hz1 := hb1.size; (try simp only [World.size_drew, World.size_alloc, World.size_setCell] at hc1 hf1 hz1); have hk1x0 := fun o => hc1 (w.heap.size) o (by omega); have hj1x0 := fun o => hf1 (w.heap.size) o (by omega); have hq1x0 : w.heap.size < w1.heap.size := (by omega); have hk1x1 := fun o => hc1 (w.heap.size + 1) o (by omega); have hj1x1 := fun o => hf1 (w.heap.size + 1) o (by omega); have hq1x1 : w.heap.size + 1 < w1.heap.size := (by omega); have hk1x2 := fun o => hc1 (w.heap.size + 1 + 1) o (by omega); have hj1x2 := fun o => hf1 (w.heap.size + 1 + 1) o (by omega); have hq1x2 : w.heap.size + 1 + 1 < w1.heap.size := (by omega); have hk1x3 := fun o => hc1 (w.heap.size + 1 + 1 + 1) o (by omega); have hj1x3 := fun o => hf1 (w.heap.size + 1 + 1 + 1) o (by omega); have hq1x3 : w.heap.size + 1 + 1 + 1 < w1.heap.size := (by omega); clear hc1 hf1)
 exact bodyPost_ret (v := vv 0 0) (by simp [results, Tryz.results114, go_sem, *]) rfl ⟨rfl, bel_a⟩
theorem l8Push_any (V1 V2 : Nat → Int) (x y k : Int) (bo : Bool) (w : World) (a0 : 0 ≤ V1 8 ∧ V1 8 ≤ 1000) (a1 : 0 ≤ V2 8 ∧ V2 8 ≤ 1000) (b6 : -20000000 ≤ V1 6 ∧ V1 6 ≤ 20000000) (b7 : -20000000 ≤ V1 7 ∧ V1 7 ≤ 20000000) (d6 : -20000000 ≤ V2 6 ∧ V2 6 ≤ 20000000) (d7 : -20000000 ≤ V2 7 ∧ V2 7 ≤ 20000000) (bx : -256 ≤ x ∧ x ≤ 256) (bY : -256 ≤ y ∧ y ≤ 256) (e9 : 0 ≤ V1 9 ∧ V1 9 ≤ 256) (f9 : 0 ≤ V2 9 ∧ V2 9 ≤ 256) (e10 : 0 ≤ V1 10 ∧ V1 10 ≤ 256) (f10 : 0 ≤ V2 10 ∧ V2 10 ≤ 256) :
 Calls Tryz.prog 114 #[bodyW V1, bodyW V2, s3 x y k, .bool bo] w fun e w' => e = .returned (vv (puX V1 V2 x y bo) (puY V1 V2 x y bo)) ∧ Below w.heap.size w w' := by
 by_cases hc : closeV V1 V2 x y ≤ 0
 · unfold puX puY; rw [if_pos hc, if_pos hc]
   exact l8Push_z V1 V2 x y k _ bo w b6 b7 d6 d7 bx bY rfl hc
 · unfold puX puY; rw [if_neg hc, if_neg hc]
   have hz : (V1 8 = 0 ∧ V2 8 = 0) = False := eq_false (fun ⟨u, v⟩ => hc (by rw [close_fixed V1 V2 x y u v]; omega))
   obtain ⟨q1, q2, q3, q4, q5, q6, q7, q8, q9⟩ := push_bd V1 V2 x y bo a0 a1 b6 b7 d6 d7 bx bY e9 f9 e10 f10 (by omega)
   cases bo
   · exact l8Push_f V1 V2 x y k (mxB V1 V2) (mnR V1 V2) (closeV V1 V2 x y) (pN V1 V2 x y false) (pP V1 V2 x y false) (pD V1 V2 x y) (togV V1 V2 (pD V1 V2 x y)) (pM V1 V2 x y false) (pA V1 V2 x y false) w a0 a1 b6 b7 d6 d7 bx bY rfl rfl rfl rfl rfl rfl rfl rfl rfl ⟨by omega, q1⟩ q2 q3 q4 q5 q6 q7 q8 q9 hz
   · exact l8Push_t V1 V2 x y k (mxB V1 V2) (mnR V1 V2) (closeV V1 V2 x y) (pN V1 V2 x y true) (pP V1 V2 x y true) (pD V1 V2 x y) (togV V1 V2 (pD V1 V2 x y)) (pM V1 V2 x y true) (pA V1 V2 x y true) w a0 a1 b6 b7 d6 d7 bx bY rfl rfl rfl rfl rfl rfl rfl rfl rfl ⟨by omega, q1⟩ q2 q3 q4 q5 q6 q7 q8 q9 hz
def poX (V1 V2 : Nat → Int) (x y k : Int) (bo : Bool) : Int := if (bodyB V1 && (bodyB V2 && hitB x y k)) = true then puX V1 V2 x y bo else 0
def poY (V1 V2 : Nat → Int) (x y k : Int) (bo : Bool) : Int := if (bodyB V1 && (bodyB V2 && hitB x y k)) = true then puY V1 V2 x y bo else 0
theorem run_eq_vec (n d : Nat) (hn : n = d + 1) (a b x y : Int) (w : World) : (Op.equalIn (n + 1) 32 (.agg #[.int .i64 a, .int .i64 b]) (.agg #[.int .i64 x, .int .i64 y])).run Tryz.prog w = .ok (a == x && b == y) w := by
 have hi : Tryz.prog.underlying 3 = some (.int .i64) := by kernel_rfl
 have hs : Tryz.prog.stoodInHeld 32 = false := by kernel_rfl
 have hp : ∀ w, (program).run Tryz.prog w = .ok Tryz.prog w := fun w => by rfl
 have p0 : ∀ (a b : Int) w, (part 3 #[.int .i64 a, .int .i64 b] 0).run Tryz.prog w = .ok (.int .i64 a) w := fun a b w => by kernel_rfl
 have p1 : ∀ (a b : Int) w, (part 3 #[.int .i64 a, .int .i64 b] 1).run Tryz.prog w = .ok (.int .i64 b) w := fun a b w => by kernel_rfl
 simp only [Op.equalIn, Sem.run_bind, run_underlying Tryz.underlying32, Result.andThen_ok, hp, hs, Bool.false_eq_true, if_false, Sem.run_pure]
 subst hn
 have h0 : ∀ w, (Op.equalIn (d + 1) 3 (.int .i64 a) (.int .i64 x)).run Tryz.prog w = .ok (a == x) w := fun w => run_equalIn_int w d 3 .i64 .i64 a x hi
 have h1 : ∀ w, (Op.equalIn (d + 1) 3 (.int .i64 b) (.int .i64 y)).run Tryz.prog w = .ok (b == y) w := fun w => run_equalIn_int w d 3 .i64 .i64 b y hi
 simp only [List.forIn_toArray, List.forIn_cons, List.forIn_nil, Sem.run_bind, p0, h0, Result.andThen_ok, Sem.run_ite, Sem.run_pure]
 cases hx : (a == x) <;> cases hy : (b == y) <;> simp [Sem.run_bind, p0, p1, h0, h1, Sem.run_ite, hx, hy]
theorem eq_vec0 (a b x y : Int) (w : World) : (Op.equalIn 10000 32 (.agg #[.int .i64 a, .int .i64 b]) (.agg #[.int .i64 x, .int .i64 y])).run Tryz.prog w = .ok (a == x && b == y) w := run_eq_vec 9999 9998 rfl a b x y w
def fitsB (V W : Nat → Int) (p q : Int) : Bool := (decide (V 8 = 0) || inB 20000000 (V 6 - p) (V 7 - q)) && (decide (W 8 = 0) || inB 20000000 (W 6 + p) (W 7 + q))
theorem l8Fits_q (V W : Nat → Int) (p q : Int) (b : Bool) (w : World) (b6 : -20000000 ≤ V 6 ∧ V 6 ≤ 20000000) (b7 : -20000000 ≤ V 7 ∧ V 7 ≤ 20000000) (d6 : -20000000 ≤ W 6 ∧ W 6 ≤ 20000000) (d7 : -20000000 ≤ W 7 ∧ W 7 ≤ 20000000) (bp : -20000000 ≤ p ∧ p ≤ 20000000) (bq : -20000000 ≤ q ∧ q ≤ 20000000) (e : fitsB V W p q = b) :
 Calls Tryz.prog 115 #[bodyW V, bodyW W, vv p q] w fun e w' => e = .returned (.bool b) ∧ Below w.heap.size w w' := by
 have hset := cset_map
 have w1 : IntKind.i64.wrap (V 6 - p) = V 6 - p := i64w (by omega)
 have w2 : IntKind.i64.wrap (V 7 - q) = V 7 - q := i64w (by omega)
 have w3 : IntKind.i64.wrap (W 6 + p) = W 6 + p := i64w (by omega)
 have w4 : IntKind.i64.wrap (W 7 + q) = W 7 + q := i64w (by omega)
 clear b6 b7 d6 d7 bp bq
 obtain ⟨D1, hD1⟩ : ∃ b, inB 20000000 (V 6 - p) (V 7 - q) = b := ⟨_, rfl⟩
 obtain ⟨D2, hD2⟩ : ∃ b, inB 20000000 (W 6 + p) (W 7 + q) = b := ⟨_, rfl⟩
 unfold fitsB at e
 rw [hD1, hD2] at e
 by_cases m0 : V 8 = 0
 · have e1 : (V 8 == 0) = true := by simp [m0]
   by_cases m1 : W 8 = 0
   · have e2 : (W 8 == 0) = true := by simp [m1]
     have hb : b = true := by rw [← e]; rw [decide_eq_true m0, decide_eq_true m1]; rfl
     subst hb
     clear e
     have M0 : Shut (V 8 = 0) := m0
     clear m0
     have M1 : Shut (W 8 = 0) := m1
     clear m1
     go_enter Tryz.func115, Tryz.ntmps115
     go_wp2_with fail
     go_ret
     exact ⟨rfl, bel_a⟩
   · have e2 : (W 8 == 0) = false := by simp [m1]
     have hb : b = D2 := by rw [← e]; rw [decide_eq_true m0, decide_eq_false m1]; rfl
     rw [hb]
     clear e hb
     have M0 : Shut (V 8 = 0) := m0
     clear m0
     go_enter Tryz.func115, Tryz.ntmps115
     go_wp2_with (go_at_call 41; refine (l6Drive_q (W 6 + p) (W 7 + q) D2 _ hD2).mono ?_; rintro e w6 ⟨rfl, hb6⟩; obtain ⟨hc6, hf6⟩ := bcell hb6; have hz6 := hb6.size; (try simp only [World.size_drew, World.size_alloc, World.size_setCell] at hc6 hf6 hz6); have hk6x0 := fun o => hc6 (w.heap.size) o (by omega); have hj6x0 := fun o => hf6 (w.heap.size) o (by omega); have hq6x0 : w.heap.size < w6.heap.size := (by omega); have hk6x1 := fun o => hc6 (w.heap.size + 1) o (by omega); have hj6x1 := fun o => hf6 (w.heap.size + 1) o (by omega); have hq6x1 : w.heap.size + 1 < w6.heap.size := (by omega); have hk6x2 := fun o => hc6 (w.heap.size + 1 + 1) o (by omega); have hj6x2 := fun o => hf6 (w.heap.size + 1 + 1) o (by omega); have hq6x2 : w.heap.size + 1 + 1 < w6.heap.size := (by omega); have hk6x3 := fun o => hc6 (w.heap.size + 1 + 1 + 1) o (by omega); have hj6x3 := fun o => hf6 (w.heap.size + 1 + 1 + 1) o (by omega); have hq6x3 : w.heap.size + 1 + 1 + 1 < w6.heap.size := (by omega); have hk6x4 := fun o => hc6 (w.heap.size + 1 + 1 + 1 + 1) o (by omega); have hj6x4 := fun o => hf6 (w.heap.size + 1 + 1 + 1 + 1) o (by omega); have hq6x4 : w.heap.size + 1 + 1 + 1 + 1 < w6.heap.size := (by omega); clear hc6 hf6)
     go_ret
     exact ⟨by first | rfl | simp, bel_a⟩
 · have e1 : (V 8 == 0) = false := by simp [m0]
   cases D1 with
   | false =>
    have hb : b = false := by rw [← e]; rw [decide_eq_false m0]; rfl
    subst hb
    clear e
    go_enter Tryz.func115, Tryz.ntmps115
    go_wp2_with (go_at_call 41; refine (l6Drive_q (V 6 - p) (V 7 - q) false _ hD1).mono ?_; rintro e w5 ⟨rfl, hb5⟩; obtain ⟨hc5, hf5⟩ := bcell hb5; have hz5 := hb5.size; (try simp only [World.size_drew, World.size_alloc, World.size_setCell] at hc5 hf5 hz5); have hk5x0 := fun o => hc5 (w.heap.size) o (by omega); have hj5x0 := fun o => hf5 (w.heap.size) o (by omega); have hq5x0 : w.heap.size < w5.heap.size := (by omega); have hk5x1 := fun o => hc5 (w.heap.size + 1) o (by omega); have hj5x1 := fun o => hf5 (w.heap.size + 1) o (by omega); have hq5x1 : w.heap.size + 1 < w5.heap.size := (by omega); have hk5x2 := fun o => hc5 (w.heap.size + 1 + 1) o (by omega); have hj5x2 := fun o => hf5 (w.heap.size + 1 + 1) o (by omega); have hq5x2 : w.heap.size + 1 + 1 < w5.heap.size := (by omega); have hk5x3 := fun o => hc5 (w.heap.size + 1 + 1 + 1) o (by omega); have hj5x3 := fun o => hf5 (w.heap.size + 1 + 1 + 1) o (by omega); have hq5x3 : w.heap.size + 1 + 1 + 1 < w5.heap.size := (by omega); have hk5x4 := fun o => hc5 (w.heap.size + 1 + 1 + 1 + 1) o (by omega); have hj5x4 := fun o => hf5 (w.heap.size + 1 + 1 + 1 + 1) o (by omega); have hq5x4 : w.heap.size + 1 + 1 + 1 + 1 < w5.heap.size := (by omega); clear hc5 hf5)
    go_ret
    exact ⟨rfl, bel_a⟩
   | true =>
    by_cases m1 : W 8 = 0
    · have e2 : (W 8 == 0) = true := by simp [m1]
      have hb : b = true := by rw [← e]; rw [decide_eq_false m0, decide_eq_true m1]; rfl
      subst hb
      clear e
      have M1 : Shut (W 8 = 0) := m1
      clear m1
      go_enter Tryz.func115, Tryz.ntmps115
      go_wp2_with (go_at_call 41; refine (l6Drive_q (V 6 - p) (V 7 - q) true _ hD1).mono ?_; rintro e w5 ⟨rfl, hb5⟩; obtain ⟨hc5, hf5⟩ := bcell hb5; have hz5 := hb5.size; (try simp only [World.size_drew, World.size_alloc, World.size_setCell] at hc5 hf5 hz5); have hk5x0 := fun o => hc5 (w.heap.size) o (by omega); have hj5x0 := fun o => hf5 (w.heap.size) o (by omega); have hq5x0 : w.heap.size < w5.heap.size := (by omega); have hk5x1 := fun o => hc5 (w.heap.size + 1) o (by omega); have hj5x1 := fun o => hf5 (w.heap.size + 1) o (by omega); have hq5x1 : w.heap.size + 1 < w5.heap.size := (by omega); have hk5x2 := fun o => hc5 (w.heap.size + 1 + 1) o (by omega); have hj5x2 := fun o => hf5 (w.heap.size + 1 + 1) o (by omega); have hq5x2 : w.heap.size + 1 + 1 < w5.heap.size := (by omega); have hk5x3 := fun o => hc5 (w.heap.size + 1 + 1 + 1) o (by omega); have hj5x3 := fun o => hf5 (w.heap.size + 1 + 1 + 1) o (by omega); have hq5x3 : w.heap.size + 1 + 1 + 1 < w5.heap.size := (by omega); have hk5x4 := fun o => hc5 (w.heap.size + 1 + 1 + 1 + 1) o (by omega); have hj5x4 := fun o => hf5 (w.heap.size + 1 + 1 + 1 + 1) o (by omega); have hq5x4 : w.heap.size + 1 + 1 + 1 + 1 < w5.heap.size := (by omega); clear hc5 hf5)
      go_ret
      exact ⟨rfl, bel_a⟩
    · have e2 : (W 8 == 0) = false := by simp [m1]
      have hb : b = D2 := by rw [← e]; rw [decide_eq_false m0, decide_eq_false m1]; rfl
      rw [hb]
      clear e hb
      go_enter Tryz.func115, Tryz.ntmps115
      go_wp2_with (first
       | (have _ := hb5; go_at_call 41; refine (l6Drive_q (W 6 + p) (W 7 + q) D2 _ hD2).mono ?_; rintro e w6 ⟨rfl, hb6⟩; obtain ⟨hc6, hf6⟩ := bcell hb6; have hz6 := hb6.size; (try simp only [World.size_drew, World.size_alloc, World.size_setCell] at hc6 hf6 hz6); have hk6x0 := fun o => hc6 (w.heap.size) o (by omega); have hj6x0 := fun o => hf6 (w.heap.size) o (by omega); have hq6x0 : w.heap.size < w6.heap.size := (by omega); have hk6x1 := fun o => hc6 (w.heap.size + 1) o (by omega); have hj6x1 := fun o => hf6 (w.heap.size + 1) o (by omega); have hq6x1 : w.heap.size + 1 < w6.heap.size := (by omega); have hk6x2 := fun o => hc6 (w.heap.size + 1 + 1) o (by omega); have hj6x2 := fun o => hf6 (w.heap.size + 1 + 1) o (by omega); have hq6x2 : w.heap.size + 1 + 1 < w6.heap.size := (by omega); have hk6x3 := fun o => hc6 (w.heap.size + 1 + 1 + 1) o (by omega); have hj6x3 := fun o => hf6 (w.heap.size + 1 + 1 + 1) o (by omega); have hq6x3 : w.heap.size + 1 + 1 + 1 < w6.heap.size := (by omega); have hk6x4 := fun o => hc6 (w.heap.size + 1 + 1 + 1 + 1) o (by omega); have hj6x4 := fun o => hf6 (w.heap.size + 1 + 1 + 1 + 1) o (by omega); have hq6x4 : w.heap.size + 1 + 1 + 1 + 1 < w6.heap.size := (by omega); clear hc6 hf6)
       | (go_at_call 41; refine (l6Drive_q (V 6 - p) (V 7 - q) true _ hD1).mono ?_; rintro e w5 ⟨rfl, hb5⟩; obtain ⟨hc5, hf5⟩ := bcell hb5; have hz5 := hb5.size; (try simp only [World.size_drew, World.size_alloc, World.size_setCell] at hc5 hf5 hz5); have hk5x0 := fun o => hc5 (w.heap.size) o (by omega); have hj5x0 := fun o => hf5 (w.heap.size) o (by omega); have hq5x0 : w.heap.size < w5.heap.size := (by omega); have hk5x1 := fun o => hc5 (w.heap.size + 1) o (by omega); have hj5x1 := fun o => hf5 (w.heap.size + 1) o (by omega); have hq5x1 : w.heap.size + 1 < w5.heap.size := (by omega); have hk5x2 := fun o => hc5 (w.heap.size + 1 + 1) o (by omega); have hj5x2 := fun o => hf5 (w.heap.size + 1 + 1) o (by omega); have hq5x2 : w.heap.size + 1 + 1 < w5.heap.size := (by omega); have hk5x3 := fun o => hc5 (w.heap.size + 1 + 1 + 1) o (by omega); have hj5x3 := fun o => hf5 (w.heap.size + 1 + 1 + 1) o (by omega); have hq5x3 : w.heap.size + 1 + 1 + 1 < w5.heap.size := (by omega); have hk5x4 := fun o => hc5 (w.heap.size + 1 + 1 + 1 + 1) o (by omega); have hj5x4 := fun o => hf5 (w.heap.size + 1 + 1 + 1 + 1) o (by omega); have hq5x4 : w.heap.size + 1 + 1 + 1 + 1 < w5.heap.size := (by omega); clear hc5 hf5))
      go_ret
      exact ⟨by first | rfl | simp, bel_a⟩
end Go.Proofs.YtalkkjhehndaoaaGreat
