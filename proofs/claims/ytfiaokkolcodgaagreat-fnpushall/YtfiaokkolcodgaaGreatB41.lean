/- Texts of a proof. -/
import Derived.Test.YtfiaokkolcodgaaGreatB28
import Derived.Test.YtfiaokkolcodgaaGreatS7a
import Derived.Test.YtfiaokkolcodgaaGreatS9l
import Derived.Test.YtfiaokkolcodgaaGreatB23
import Derived.Test.YtfiaokkolcodgaaGreatB11
import Derived.Test.YtfiaokkolcodgaaGreatB9
import Derived.Deep.AppendLies
import Derived.Test.YtfiaokkolcodgaaGreatMAt
import Derived.Test.YtfiaokkolcodgaaGreatB14
import Derived.Deep.RegionHeld3
import Derived.Deep.DeepCutAuto
set_option maxHeartbeats 16000000
set_option maxRecDepth 20000
namespace Go.Proofs.YtfiaokkolcodgaaGreat
open Go.RowKit
set_option linter.unusedVariables false
set_option linter.unusedSimpArgs false
def valN (U G : Nat → Int) (i : Nat) : Int :=
 bif decide (U (i * 12 + 8) = 0) then -1 else bif decide (atOf (numS U G i).2 (G i) (numS U G i).2.length < 0) then ((numS U G i).2.length : Int) else atOf (numS U G i).2 (G i) (numS U G i).2.length
theorem numS_1 (U G : Nat → Int) (i : Nat) : (numS U G (i + 1)).1 = (numS U G i).1 ++ [valN U G i] := by
 unfold valN
 by_cases h : U (i * 12 + 8) = 0
 · rw [numS_z h, decide_eq_true h]; rfl
 · rw [decide_eq_false h]
   by_cases k : atOf (numS U G i).2 (G i) (numS U G i).2.length < 0
   · rw [numS_n h k, decide_eq_true k]; rfl
   · rw [numS_o h k, decide_eq_false k]; rfl
theorem ofL_num (U G : Nat → Int) : ∀ n i, i < n → ofL (numS U G n).1 i = valN U G i
 | 0, i, h => by omega
 | n + 1, i, h => by
  rw [numS_1]
  have hl := (numS_len U G n).1
  by_cases e : i = n
  · subst e; rw [ofL_r (by omega), hl, Nat.sub_self]; rfl
  · rw [ofL_l (by omega)]; exact ofL_num U G n i (by omega)
theorem val_cases (U G : Nat → Int) (i : Nat) :
 (valN U G i = -1 ∧ (numS U G (i + 1)).2.length = (numS U G i).2.length) ∨ (U (i * 12 + 8) ≠ 0 ∧ valN U G i = ((numS U G i).2.length : Int) ∧ (numS U G (i + 1)).2.length = (numS U G i).2.length + 1) ∨ (U (i * 12 + 8) ≠ 0 ∧ 0 ≤ valN U G i ∧ valN U G i < ((numS U G i).2.length : Int) ∧ (numS U G (i + 1)).2.length = (numS U G i).2.length) := by
 unfold valN
 by_cases h : U (i * 12 + 8) = 0
 · rw [numS_z h, decide_eq_true h]; exact .inl ⟨rfl, rfl⟩
 · rw [decide_eq_false h]
   by_cases k : atOf (numS U G i).2 (G i) (numS U G i).2.length < 0
   · rw [numS_n h k, decide_eq_true k]; exact .inr (.inl ⟨h, rfl, by rw [List.length_append]; rfl⟩)
   · rw [numS_o h k, decide_eq_false k]
     refine .inr (.inr ⟨h, ?_, ?_, rfl⟩)
     · show 0 ≤ atOf _ _ _; omega
     · show atOf (numS U G i).2 (G i) (numS U G i).2.length < _
       rcases atOf_bd (numS U G i).2 (G i) (numS U G i).2.length with q | q <;> omega
theorem awP_g (l : List Bool) (g : Int) (s : Bool) : (awP l g s).length = if g = (l.length : Int) then l.length + 1 else l.length := by
 unfold awP
 by_cases e : g = (l.length : Int)
 · rw [if_pos e, decide_eq_true e]
   cases decide (0 ≤ g) <;> simp
 · rw [if_neg e, decide_eq_false e]
   cases decide (0 ≤ g) <;> simp
theorem aw_len (U Gr G : Nat → Int) (n : Nat) (hG : ∀ i, i < n → G i = valN U Gr i) : ∀ i, i ≤ n → (awL U G i).length = (numS U Gr i).2.length
 | 0, _ => rfl
 | i + 1, h => by
  have ih := aw_len U Gr G n hG i (by omega)
  rw [awL, awP_g, ih, hG i (by omega)]
  rcases val_cases U Gr i with ⟨a, b⟩ | ⟨_, a, b⟩ | ⟨_, a, b, c⟩
  · rw [if_neg (by omega), b]
  · rw [if_pos (by omega), b]
  · rw [if_neg (by omega), c]
theorem num2_mono (U Gr : Nat → Int) : ∀ j i, i ≤ j → (numS U Gr i).2.length ≤ (numS U Gr j).2.length
 | 0, i, h => by
  obtain rfl : i = 0 := by omega
  exact Nat.le_refl _
 | j + 1, i, h => by
  by_cases e : i = j + 1
  · rw [e]; exact Nat.le_refl _
  · have := num2_mono U Gr j i (by omega)
    rcases val_cases U Gr j with ⟨a, b⟩ | ⟨_, a, b⟩ | ⟨_, a, b, c⟩ <;> omega
theorem grp_bd (U Gr G : Nat → Int) (n : Nat) (hG : ∀ i, i < n → G i = valN U Gr i) : ∀ i, i < n → (-1 ≤ G i ∧ G i ≤ ((awL U G i).length : Int)) ∧ G i < ((awL U G n).length : Int) ∧ (0 ≤ G i → U (i * 12 + 8) ≠ 0) := by
 intro i hi
 have h1 := aw_len U Gr G n hG i (by omega)
 have h2 := aw_len U Gr G n hG n (Nat.le_refl _)
 have h3 := num2_mono U Gr n (i + 1) (by omega)
 have h4 := num2_mono U Gr (i + 1) i (by omega)
 rw [h1, h2, hG i hi]
 rcases val_cases U Gr i with ⟨a, b⟩ | ⟨m, a, b⟩ | ⟨m, a, b, c⟩
 · exact ⟨by omega, by omega, fun q => by omega⟩
 · exact ⟨by omega, by omega, fun _ => m⟩
 · exact ⟨by omega, by omega, fun _ => m⟩
theorem live_ok {U C : Nat → Int} {n m : Nat} (h : ∀ k, k < m → CtP n (C (k * 5)) (C (k * 5 + 1)) (C (k * 5 + 2)) (C (k * 5 + 3)) (C (k * 5 + 4))) : ∀ k, k ≤ m → Fives (CtP n) (liveL U C k)
 | 0, _ => Fives.nil _
 | k + 1, hk => by
  have ih := live_ok (U := U) h k (by omega)
  cases e : liveC U C k with
  | true => rw [liveL_yes e]; exact ih.app (Fives.one (h k (by omega)))
  | false => rw [liveL_no e]; exact ih
theorem con_P (C : Nat → Nat → Int) {n m : Nat} (e : (conL C n).length = m * 5) : ∀ k, k < m → CtP n (ofL (conL C n) (k * 5)) (ofL (conL C n) (k * 5 + 1)) (ofL (conL C n) (k * 5 + 2)) (ofL (conL C n) (k * 5 + 3)) (ofL (conL C n) (k * 5 + 4)) := by
 obtain ⟨m', e', p⟩ := conOut_ok C n (n := n)
 obtain rfl : m' = m := by unfold conL at e; omega
 exact p
theorem col_put {U V : Nat → Int} {k i j : Nat} (hi : i < 12) : colOf (putRow U k V) i j = if j = k then V i else colOf U i j := by
 unfold colOf putRow
 by_cases e : j = k
 · subst e; rw [if_pos (by omega), if_pos rfl, Nat.add_sub_cancel_left]
 · rw [if_neg (by omega), if_neg e]
theorem putRow_self (U : Nat → Int) (k : Nat) : putRow U k (fun j => U (k * 12 + j)) = U := by
 funext q
 unfold putRow
 by_cases e : k * 12 ≤ q ∧ q < k * 12 + 12
 · rw [if_pos e]; exact congrArg U (by omega)
 · rw [if_neg e]
theorem shareV_congr {V W V' W' : Nat → Int} (m : Int) (h1 : V 8 = V' 8) (h2 : W 8 = W' 8) : shareV V W m = shareV V' W' m := by unfold shareV; rw [h1, h2]
theorem moveV_zero {V : Nat → Int} (a4 : -2560000 ≤ V 4 ∧ V 4 ≤ 2560000) (a5 : -2560000 ≤ V 5 ∧ V 5 ≤ 2560000) : moveV V 0 0 = V := by
 have e4 : clampZ 2560000 (V 4 + 0) = V 4 := by unfold clampZ; (repeat' split); all_goals omega
 have e5 : clampZ 2560000 (V 5 + 0) = V 5 := by unfold clampZ; (repeat' split); all_goals omega
 unfold moveV mvX mvY
 rw [e4, e5, if_pos (by omega), if_pos (by omega)]
 funext j
 unfold setV
 repeat' split
 all_goals (first | rfl | (subst_vars; rfl))
theorem row_else {U V : Nat → Int} {k l : Nat} (h : l ≠ k) : ∀ j, j < 12 → putRow U k V (l * 12 + j) = U (l * 12 + j) := fun j hj => putRow_else h hj
theorem row_is {U V : Nat → Int} {k : Nat} : ∀ j, j < 12 → putRow U k V (k * 12 + j) = V j := fun j hj => by unfold putRow; rw [if_pos (by omega), Nat.add_sub_cancel_left]
theorem putRow_congr {U V W : Nat → Int} {k : Nat} (h : ∀ j, j < 12 → V j = W j) : putRow U k V = putRow U k W := by
 funext q
 unfold putRow
 by_cases e : k * 12 ≤ q ∧ q < k * 12 + 12
 · rw [if_pos e, if_pos e]; exact h _ (by omega)
 · rw [if_neg e, if_neg e]
theorem moveV_congr {V W : Nat → Int} (p q : Int) (h : ∀ j, j < 12 → V j = W j) : ∀ j, j < 12 → moveV V p q j = moveV W p q j := fun j hj => by
 unfold moveV mvX mvY setV
 rw [h 4 (by omega), h 5 (by omega), h 6 (by omega), h 7 (by omega), h j hj]
theorem apart_two {U : Nat → Int} {A B : Nat} {x y d p q r s : Int} (hAB : A ≠ B) (hA : BOk (fun j => U (A * 12 + j))) (hB : BOk (fun j => U (B * 12 + j))) (hm : 0 < (d - 64).tdiv 4)
 (ep : (-x * shareV (fun j => U (A * 12 + j)) (fun j => U (B * 12 + j)) ((d - 64).tdiv 4)).tdiv 256 = p) (eq : (-y * shareV (fun j => U (A * 12 + j)) (fun j => U (B * 12 + j)) ((d - 64).tdiv 4)).tdiv 256 = q)
 (er : (x * shareV (fun j => U (B * 12 + j)) (fun j => U (A * 12 + j)) ((d - 64).tdiv 4)).tdiv 256 = r) (es : (y * shareV (fun j => U (B * 12 + j)) (fun j => U (A * 12 + j)) ((d - 64).tdiv 4)).tdiv 256 = s) :
 putRow (putRow U A (moveV (fun j => U (A * 12 + j)) p q)) B (moveV (fun j => putRow U A (moveV (fun j => U (A * 12 + j)) p q) (B * 12 + j)) r s) = apartU U A B x y d := by
 have e1 : putRow U A (moveV (fun j => U (A * 12 + j)) p q) = bif decide (0 < U (A * 12 + 8)) then putRow U A (moveV (fun j => U (A * 12 + j)) p q) else U := by
  by_cases z : 0 < U (A * 12 + 8)
  · rw [decide_eq_true z, cond_true]
  · rw [decide_eq_false z, cond_false]
    have z8 : U (A * 12 + 8) = 0 := by have := hA.m8; omega
    have s0 : shareV (fun j => U (A * 12 + j)) (fun j => U (B * 12 + j)) ((d - 64).tdiv 4) = 0 := by unfold shareV; rw [show decide (U (A * 12 + 8) = 0) = true from decide_eq_true z8]; rfl
    rw [s0, Int.mul_zero] at ep eq
    have p0 : p = 0 := ep.symm
    have q0 : q = 0 := eq.symm
    rw [p0, q0, moveV_zero hA.a4 hA.a5, putRow_self]
 have e2 : ∀ U1 : Nat → Int, (∀ j, j < 12 → U1 (B * 12 + j) = U (B * 12 + j)) → putRow U1 B (moveV (fun j => U1 (B * 12 + j)) r s) = bif decide (0 < U (B * 12 + 8)) then putRow U1 B (moveV (fun j => U (B * 12 + j)) r s) else U1 := by
  intro U1 h1
  by_cases z : 0 < U (B * 12 + 8)
  · rw [decide_eq_true z, cond_true]
    exact putRow_congr (moveV_congr r s h1)
  · rw [decide_eq_false z, cond_false]
    have z8 : U (B * 12 + 8) = 0 := by have := hB.m8; omega
    have s0 : shareV (fun j => U (B * 12 + j)) (fun j => U (A * 12 + j)) ((d - 64).tdiv 4) = 0 := by unfold shareV; rw [show decide (U (B * 12 + 8) = 0) = true from decide_eq_true z8]; rfl
    rw [s0, Int.mul_zero] at er es
    have r0 : r = 0 := er.symm
    have s0 : s = 0 := es.symm
    have a4 := hB.a4
    have a5 := hB.a5
    rw [r0, s0, moveV_zero (V := fun j => U1 (B * 12 + j)) (by rw [h1 4 (by omega)]; exact a4) (by rw [h1 5 (by omega)]; exact a5), putRow_self]
 rw [e2 _ (row_else (fun e => hAB e.symm)), e1]
 unfold apartU
 rw [decide_eq_true hm, ep, eq, er, es]
 rfl
def mv7 (cb : Nat) (C : Nat → Int) (q : Nat) : List Value := [.int .i64 (C (q * 5 + 2)), .int .i64 (C (q * 5 + 3)), .int .i64 (C (q * 5 + 4)), .int .i64 (C (q * 5)), .pointer (some ⟨cb, 0, none⟩), .int .i64 (C (q * 5 + 1)), .pointer (some ⟨cb, 0, none⟩)]
def mvs (cb : Nat) (C : Nat → Int) : Nat → List Value
 | 0 => []
 | m + 1 => mvs cb C m ++ mv7 cb C m
theorem mvs_len (cb : Nat) (C : Nat → Int) : ∀ m, (mvs cb C m).length = m * 7
 | 0 => rfl
 | m + 1 => by rw [mvs, List.length_append, mvs_len cb C m]; show m * 7 + 7 = _; omega
theorem mvs_get (cb : Nat) (C : Nat → Int) : ∀ (m q i : Nat), q < m → i < 7 → (mvs cb C m)[q * 7 + i]? = (mv7 cb C q)[i]?
 | 0, q, i, h, _ => absurd h (Nat.not_lt_zero _)
 | m + 1, q, i, h, hi => by
  rw [mvs]
  by_cases e : q = m
  · subst e
    rw [List.getElem?_append_right (by rw [mvs_len]; omega), mvs_len, Nat.add_sub_cancel_left]
  · rw [List.getElem?_append_left (by rw [mvs_len]; omega)]
    exact mvs_get cb C m q i (by omega) hi
def ML (w : World) (base cb : Nat) (v : Value) (C : Nat → Int) (m : Nat) : Prop := w.ownsRow base 80 7 v m (mvs cb C m)
theorem ML.nil (w : World) (base cb : Nat) (C : Nat → Int) : ML w base cb (.slice none 0 0) C 0 := World.ownsRow_nil w base _ _
theorem ML.lt {w : World} {base cb m : Nat} {v : Value} {C : Nat → Int} (h : ML w base cb v C m) : ∀ b, v.ownBlock = some b → base ≤ b ∧ b < w.heap.size := World.ownsRow.lt h
theorem ML.frame {X : Nat → Prop} {w w' : World} {base cb m : Nat} {v : Value} {C : Nat → Int} (h : ML w base cb v C m) (hs : Fr X w w') (hX : ∀ b, v.ownBlock = some b → ¬ X b) : ML w' base cb v C m := by
 refine ⟨h.1, ?_⟩
 rcases h.2 with q | ⟨g, cap, cur, hv, hb, hg, rest⟩
 · exact .inl q
 · exact .inr ⟨g, cap, cur, hv, hb, (hs.block _ (Array.getElem?_eq_some_iff.1 hg).1 (hX g (by rw [hv]; rfl))).trans hg, rest⟩
theorem ML.below {w w' : World} {base cb m : Nat} {v : Value} {C : Nat → Int} (h : ML w base cb v C m) (hb : Below w.heap.size w w') : ML w' base cb v C m := h.frame (X := fun _ => False) (Fr.of_below hb) (fun _ _ h => h)
theorem ML.isCells {w : World} {base cb m : Nat} {v : Value} {C : Nat → Int} (h : ML w base cb v C m) : ∀ b o, v.ownBlock = some b → w.heap[b]? = some o → o.isCells = true := by
 intro b o hb ho
 rcases h.2 with ⟨hv, _⟩ | ⟨g, cap, cur, hv, _, hg, _⟩
 · subst hv; cases hb
 · subst hv
   simp only [Value.ownBlock, Option.some.injEq] at hb
   subst hb
   rw [hg] at ho; cases ho; rfl
theorem ML.is {w : World} {base cb m : Nat} {v : Value} {C : Nat → Int} (h : ML w base cb v C m) : (m = 0 ∧ v = .slice none 0 0) ∨ ∃ g c, v = .slice (some ⟨g, 0, none⟩) m c := by
 rcases h.2 with ⟨hv, e⟩ | ⟨g, cap, cur, hv, _⟩
 · exact .inl ⟨e, hv⟩
 · exact .inr ⟨_, _, hv⟩
theorem ML.rg {w : World} {base cb m g c rb : Nat} {C : Nat → Int} (h : ML w base cb (.slice (some ⟨g, 0, none⟩) m c) C m) (c0 : w.cell? ⟨rb, 0, none⟩ = some (.slice (some ⟨g, 0, none⟩) m c)) (c1 : w.cell? ⟨rb, 1, none⟩ = some (.int .i64 0)) (f1 : w.frozen? ⟨rb, 1, none⟩ = false) (ne : rb ≠ g) : Rg w rb g m c cb C 0 :=
 ⟨c0, c1, f1, fun q hq => by
  have k := fun i (hi : i < 7) => (World.ownsRow.cellAt h (q * 7 + i) (by omega)).trans (mvs_get cb C m q i hq hi)
  exact ⟨k 0 (by omega), k 1 (by omega), k 2 (by omega), k 3 (by omega), k 4 (by omega), k 5 (by omega), k 6 (by omega)⟩, (h.lt g rfl).2, cell_lt (a := ⟨rb, 0, none⟩) c0, ne⟩
abbrev zcMeet : Value := .agg #[.int .i64 0, .int .i64 0, .int .i64 0, .int .i64 0, .pointer none, .int .i64 0, .pointer none]
theorem infoMeet : (Tryz.prog.info? 80).map (fun i => (i.zero, i.size, i.bytes)) = some (some zcMeet, 7, 56) := by kernel_rfl
theorem step_mapp {ops : Array Oper} {o : Oper} {a : Act} {K : Act → World → Prop} {Q : Exit → Act → World → Prop} {E : Prop} {w : World} (hgd : o.guard = none) (s x : Operand) (t : TypeId)
 (ho : o.op = .call { callee := .builtin .append, args := #[s, x], argTypes := #[t, t] })
 (ht : Tryz.prog.underlying t = some (.slice 80))
 (base cb : Nat) (v : Value) (C : Nat → Int) (m : Nat) (hs : a.eval s = v) (h : ML w base cb v C m) (b : Nat) (hx : a.eval x = .slice (some ⟨b, 0, none⟩) 1 1)
 (hn : ∀ i, i < 7 → w.cell? ⟨b, i, none⟩ = (mv7 cb C m)[i]?) (hm : m ≤ 1000) (hbase : base ≤ w.heap.size)
 (hK : ∀ g' c' w', ML w' base cb (.slice (some ⟨g', 0, none⟩) (m + 1) c') C (m + 1) → w.grownBy w' v.ownBlock → K (a.put o.dst (.slice (some ⟨g', 0, none⟩) (m + 1) c')) w') :
 if Region.wanted o (yielded ops a.tmps) = true then Oper.wp Tryz.prog o a w K Q else E := by
 obtain ⟨i, hi, hzz⟩ := Option.map_eq_some_iff.1 infoMeet
 simp only [Prod.mk.injEq] at hzz
 obtain ⟨hz, hsz, hb8⟩ := hzz
 refine step_append_lies w hgd s x t ho base 80 i zcMeet 7 56 ht hi hz hsz hb8 rfl (by decide) v m (mvs cb C m) hs h ⟨b, 0, none⟩ 1 1 (mv7 cb C m) hx rfl ?_ ?_ (by decide) (by unfold maxLen; omega) (by omega) hbase _ rfl ?_
 · intro q u hu
   have hq : q < 7 := by
    have := (List.getElem?_eq_some_iff.1 hu).1
    exact this
   have hadd : (⟨b, 0, none⟩ : Addr).add q = ⟨b, q, none⟩ := by unfold Addr.add; split <;> simp_all
   rw [hadd, hn q hq]; exact hu
 · intro u hu; simp only [mv7, List.mem_cons, List.not_mem_nil, or_false] at hu; rcases hu with rfl | rfl | rfl | rfl | rfl | rfl | rfl <;> rfl
 · intro g' cap' w' r1 r2 r3 r4
   exact hK g' cap' w' r1 r2
def ctsB (n : Nat) (C : Nat → Int) : Nat → Bool
 | 0 => true
 | k + 1 => ctsB n C k && atB n (C (k * 5)) (C (k * 5 + 1)) (C (k * 5 + 2)) (C (k * 5 + 3)) (C (k * 5 + 4))
theorem ctsB_le {n : Nat} {C : Nat → Int} {m : Nat} (h : ctsB n C m = true) : ∀ k, k < m → atB n (C (k * 5)) (C (k * 5 + 1)) (C (k * 5 + 2)) (C (k * 5 + 3)) (C (k * 5 + 4)) = true := by
 induction m with
 | zero => intro k hk; omega
 | succ m ih =>
  intro k hk
  rw [ctsB, Bool.and_eq_true] at h
  by_cases e : k = m
  · subst e; exact h.2
  · exact ih h.1 k (by omega)
theorem ctsB_no {n : Nat} {C : Nat → Int} {k : Nat} (h : atB n (C (k * 5)) (C (k * 5 + 1)) (C (k * 5 + 2)) (C (k * 5 + 3)) (C (k * 5 + 4)) = false) {m : Nat} (hk : k < m) : ctsB n C m = false := by
 cases e : ctsB n C m with
 | false => rfl
 | true => rw [ctsB_le e k hk] at h; cases h
structure Mo (w wr : World) (cb n rb k : Nat) (U C : Nat → Int) (S : Nat → Value) (v : Value) : Prop where
 cs : Cs wr cb n (colOf U) S
 r0 : wr.cell? ⟨rb, 0, none⟩ = some v
 r1 : wr.cell? ⟨rb, 1, none⟩ = some (.int .i64 0)
 f0 : wr.frozen? ⟨rb, 0, none⟩ = false
 f1 : wr.frozen? ⟨rb, 1, none⟩ = false
 ml : ML wr (rb + 1) cb v C k
 bel : Below w.heap.size w wr
 rl : rb < wr.heap.size
theorem Mo.on {w wr : World} {cb n rb k : Nat} {U C : Nat → Int} {S : Nat → Value} {v : Value} {w' : World} (h : Mo w wr cb n rb k U C S v) (hb : Below wr.heap.size wr w') : Mo w w' cb n rb k U C S v :=
 ⟨h.cs.below hb, (hb.cell (p := ⟨rb, 0, none⟩) h.rl).trans h.r0, (hb.cell (p := ⟨rb, 1, none⟩) h.rl).trans h.r1, (hb.frozen (p := ⟨rb, 0, none⟩) h.rl).trans h.f0, (hb.frozen (p := ⟨rb, 1, none⟩) h.rl).trans h.f1, h.ml.below hb, h.bel.trans (hb.mono h.bel.size), Nat.lt_of_lt_of_le h.rl hb.size⟩
theorem Mo.push {w wr : World} {cb n rb k : Nat} {U C : Nat → Int} {S : Nat → Value} {v : Value} {W w7 : World} {g c : Nat} (h : Mo w wr cb n rb k U C S v) (hb : Below wr.heap.size wr W) (hg : W.grownBy w7 v.ownBlock) (ho : ML w7 (rb + 1) cb (.slice (some ⟨g, 0, none⟩) (k + 1) c) C (k + 1)) (hwr : w.heap.size ≤ rb) (hcb : cb < rb) (hxr : ∀ b, Xc S b → b < rb) :
 (w7.cell? ⟨rb, 0, none⟩ = some v ∧ w7.frozen? ⟨rb, 0, none⟩ = false ∧ rb < w7.heap.size) ∧ Mo w (w7.setCell ⟨rb, 0, none⟩ (.slice (some ⟨g, 0, none⟩) (k + 1) c)) cb n rb (k + 1) U C S (.slice (some ⟨g, 0, none⟩) (k + 1) c) := by
 have h1 := h.on hb
 have hlt := h1.ml.lt
 have hF : Fr (fun b => v.ownBlock = some b) W w7 := Fr.grown hg (fun b e => e) h1.ml.isCells
 have nr : ¬ v.ownBlock = some rb := fun e => by have := (hlt rb e).1; omega
 have n0 := (hF.cell (p := ⟨rb, 0, none⟩) h1.rl nr).trans h1.r0
 have n1 := (hF.cell (p := ⟨rb, 1, none⟩) h1.rl nr).trans h1.r1
 have m0 := (hF.frozen (p := ⟨rb, 0, none⟩) h1.rl nr).trans h1.f0
 have m1 := (hF.frozen (p := ⟨rb, 1, none⟩) h1.rl nr).trans h1.f1
 have l7 : rb < w7.heap.size := Nat.lt_of_lt_of_le h1.rl hF.size
 have c7 := h1.cs.frame hF (fun e => by have := (hlt cb e).1; omega) (fun b hx e => by have := (hlt b e).1; have := hxr b hx; omega)
 have hS : Fr (fun b => b = rb) w7 (w7.setCell ⟨rb, 0, none⟩ (.slice (some ⟨g, 0, none⟩) (k + 1) c)) := Fr.setCell (X := fun b => b = rb) rfl _
 refine ⟨⟨n0, m0, l7⟩, c7.frame hS (by show ¬ cb = rb; omega) (fun b hx e => by have := hxr b hx; omega), by go_simp, by go_simp, by go_simp, by go_simp, ho.frame hS (fun b e e2 => by have := (ho.lt b e).1; omega), ?_, by simpa using l7⟩
 exact (h1.bel.trans (hF.below (by have := h1.bel.size; omega) (fun b e => by have := (hlt b e).1; omega))).trans (hS.below (by have := hF.size; have := h1.bel.size; omega) (fun b e => by omega))
theorem columnsOf_t (a : Option Addr) (n c : Nat) (U : Nat → Int) (w : World) (h : Flat w a (n * 12) U) (hn : n ≤ 1048576) (hk : bodsB n U = true) :
 Calls Tryz.prog 25 #[.slice a n c] w fun e w' => ∃ cb S, e = .returned (.tuple #[.pointer (some ⟨cb, 0, none⟩), .bool true]) ∧ w.heap.size ≤ cb ∧ Cs w' cb n (colOf U) S ∧ Below w.heap.size w w' :=
 (columnsOf_any a n c U w h hn).mono fun e w' ⟨h1, h2⟩ => by
   rcases h2 with ⟨_, cb, S, r1, r2, r3⟩ | ⟨q, _⟩
   · exact ⟨cb, S, r1, r2, r3, h1⟩
   · rw [hk] at q; cases q
theorem columnsOf_f (a : Option Addr) (n c : Nat) (U : Nat → Int) (w : World) (h : Flat w a (n * 12) U) (hn : n ≤ 1048576) (hk : bodsB n U = false) :
 Calls Tryz.prog 25 #[.slice a n c] w fun e w' => e = .returned (.tuple #[.pointer none, .bool false]) ∧ Below w.heap.size w w' :=
 (columnsOf_any a n c U w h hn).mono fun e w' ⟨h1, h2⟩ => by
   rcases h2 with ⟨q, _⟩ | ⟨_, r⟩
   · rw [hk] at q; cases q
   · exact ⟨r, h1⟩
end Go.Proofs.YtfiaokkolcodgaaGreat
