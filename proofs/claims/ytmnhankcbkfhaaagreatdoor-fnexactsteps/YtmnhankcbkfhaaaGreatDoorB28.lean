/- Texts of a proof. -/
import Derived.Test.YtmnhankcbkfhaaaGreatDoorB14
import Derived.Test.YtmnhankcbkfhaaaGreatDoorB1
import Derived.Deep.RegionHeld3
import Derived.Deep.DeepCutAuto
import Derived.Test.YtmnhankcbkfhaaaGreatDoorB25
import Derived.Deep.AppendLies
import Derived.Test.YtmnhankcbkfhaaaGreatDoorB4
import Derived.Test.YtmnhankcbkfhaaaGreatDoorB20
import Derived.Test.YtmnhankcbkfhaaaGreatDoorB2
set_option maxHeartbeats 16000000
set_option maxRecDepth 20000
namespace Go.Proofs.YtmnhankcbkfhaaaGreatDoor
open Go.RowKit
set_option linter.unusedVariables false
set_option linter.unusedSimpArgs false
def rootF (F : Nat → Nat) (i : Nat) : Nat := if h : F i < i then rootF F (F i) else i
termination_by i
theorem root_lt {F : Nat → Nat} {i : Nat} (h : F i < i) : rootF F i = rootF F (F i) := by rw [rootF, dif_pos h]
theorem root_self {F : Nat → Nat} {i : Nat} (h : ¬ F i < i) : rootF F i = i := by rw [rootF, dif_neg h]
theorem root_step {F : Nat → Nat} (le : ∀ i, F i ≤ i) (i : Nat) : rootF F (F i) = rootF F i := by
 by_cases h : F i < i
 · rw [root_lt h]
 · have e : F i = i := by have := le i; omega
   rw [e]
theorem root_le (F : Nat → Nat) : ∀ i, rootF F i ≤ i := by
 intro i
 induction i using Nat.strongRecOn with
 | ind i ih =>
  by_cases h : F i < i
  · rw [root_lt h]; exact Nat.le_trans (ih _ h) (Nat.le_of_lt h)
  · rw [root_self h]; exact Nat.le_refl _
theorem root_top (F : Nat → Nat) : ∀ i, ¬ F (rootF F i) < rootF F i := by
 intro i
 induction i using Nat.strongRecOn with
 | ind i ih =>
  by_cases h : F i < i
  · rw [root_lt h]; exact ih _ h
  · rw [root_self h]; exact h
def setF (F : Nat → Nat) (p v : Nat) : Nat → Nat := fun j => if j = p then v else F j
theorem setF_at (F : Nat → Nat) (p v : Nat) : setF F p v p = v := if_pos rfl
theorem setF_ne {F : Nat → Nat} {p v j : Nat} (h : j ≠ p) : setF F p v j = F j := if_neg h
theorem setF_le {F : Nat → Nat} {p v : Nat} (le : ∀ i, F i ≤ i) (hv : v ≤ p) : ∀ i, setF F p v i ≤ i := fun i => by
 by_cases e : i = p
 · subst e; rw [setF_at]; exact hv
 · rw [setF_ne e]; exact le i
theorem root_half {F : Nat → Nat} (le : ∀ i, F i ≤ i) (p : Nat) : ∀ j, rootF (setF F p (F (F p))) j = rootF F j := by
 intro j
 induction j using Nat.strongRecOn with
 | ind j ih =>
  by_cases e : j = p
  · subst e
    have l1 := le j
    have l2 := le (F j)
    by_cases h : F (F j) < j
    · rw [root_lt (by rw [setF_at]; exact h), setF_at, ih _ h, root_step le, root_step le]
    · rw [root_self (by rw [setF_at]; exact h), root_self (by omega)]
  · by_cases h : F j < j
    · rw [root_lt (by rw [setF_ne e]; exact h), setF_ne e, ih _ h, root_step le]
    · rw [root_self (by rw [setF_ne e]; exact h), root_self h]
theorem root_join {F : Nat → Nat} {m M : Nat} (hm : ¬ F m < m) (hM : ¬ F M < M) (hmM : m ≤ M) : ∀ j, rootF (setF F M m) j = if rootF F j = M then m else rootF F j := by
 intro j
 induction j using Nat.strongRecOn with
 | ind j ih =>
  by_cases e : j = M
  · subst e
    rw [root_self (F := F) hM, if_pos rfl]
    by_cases h : m < j
    · rw [root_lt (by rw [setF_at]; exact h), setF_at, root_self (by rw [setF_ne (by omega)]; exact hm)]
    · rw [root_self (by rw [setF_at]; exact h)]; omega
  · by_cases h : F j < j
    · rw [root_lt (by rw [setF_ne e]; exact h), setF_ne e, ih _ h, ← root_lt h]
    · rw [root_self (by rw [setF_ne e]; exact h), root_self h, if_neg e]
structure Uf (w : World) (ub g n c : Nat) (F : Nat → Nat) : Prop where
 hd : w.cell? ⟨ub, 0, none⟩ = some (.slice (some ⟨g, 0, none⟩) n c)
 row : ∀ i, i < n → w.cell? ⟨g, i, none⟩ = some (.int .i64 (F i : Int))
 fz : ∀ i, i < n → w.frozen? ⟨g, i, none⟩ = false
 le : ∀ i, F i ≤ i
 ne : ub ≠ g
 l1 : ub < w.heap.size
 l2 : g < w.heap.size
theorem Uf.on {w w' : World} {ub g n c : Nat} {F : Nat → Nat} (h : Uf w ub g n c F) (k : Below w.heap.size w w') : Uf w' ub g n c F :=
 ⟨(k.cell (p := ⟨ub, 0, none⟩) h.l1).trans h.hd, fun i hi => (k.cell (p := ⟨g, i, none⟩) h.l2).trans (h.row i hi), fun i hi => (k.frozen (p := ⟨g, i, none⟩) h.l2).trans (h.fz i hi), h.le, h.ne, Nat.lt_of_lt_of_le h.l1 k.size, Nat.lt_of_lt_of_le h.l2 k.size⟩
theorem Uf.set {w : World} {ub g n c : Nat} {F : Nat → Nat} (h : Uf w ub g n c F) {p v : Nat} (hp : p < n) (hv : v ≤ p) : Uf (w.setCell ⟨g, p, none⟩ (.int .i64 (v : Int))) ub g n c (setF F p v) := by
 refine ⟨?_, fun i hi => ?_, fun i hi => by rw [World.frozen?_setCell]; exact h.fz i hi, setF_le h.le hv, h.ne, by simpa using h.l1, by simpa using h.l2⟩
 · rw [cset_far (by simp; have := h.ne; omega)]; exact h.hd
 · by_cases e : i = p
   · subst e; rw [cset_map, h.row i hi, setF_at]; rfl
   · rw [cset_other (by intro q; cases q; exact e rfl), setF_ne e]; exact h.row i hi
theorem top_q (ub g n c p : Nat) (F : Nat → Nat) (w : World) (h : Uf w ub g n c F) (hp : p < n) :
 Calls Tryz.prog 116 #[.pointer (some ⟨ub, 0, none⟩), .int .i64 (p : Int)] w fun e w' => e = .returned (.int .i64 (rootF F p : Int)) ∧ (∃ F', Uf w' ub g n c F' ∧ ∀ j, rootF F' j = rootF F j) ∧ Fr (fun b => b = g) w w' := by
 have hset := cset_map
 go_enter Tryz.func116, Tryz.ntmps116
 go_upto_region 1 with fail
 go_loopw [1] (fun s1 wr => ∃ (q : Nat) (F' : Nat → Nat), s1 = .int .i64 (q : Int) ∧ q < n ∧ Uf wr ub g n c F' ∧ (∀ j, rootF F' j = rootF F j) ∧ rootF F' q = rootF F p ∧ Fr (fun b => b = g) w wr) (fun s1 _ => (intOf s1).toNat)
 case atStart => exact ⟨p, F, rfl, hp, h, fun _ => rfl, rfl, Fr.refl _ _⟩
 case round =>
  obtain ⟨q, F', rfl, hqn, hU, hall0, hrt0, hF⟩ := hrel
  have hall : Shut (∀ j, rootF F' j = rootF F j) := hall0
  have hrt : Shut (rootF F' q = rootF F p) := hrt0
  clear hall0 hrt0
  have hqi : (q : Int) < (n : Int) := by omega
  have u0 := hU.hd
  have uq := hU.row q hqn
  have uf := hU.fz q hqn
  have hle := hU.le
  by_cases e : F' q = q
  · have ee : ((F' q : Int) != (q : Int)) = false := by simp [e]
    have hv : rootF F p = q := by rw [← hrt.out, root_self (by omega)]
    clear e hrt
    go_wp2_with fail
    go_ret
    refine ⟨?_, ⟨F', hU, hall.out⟩, hF⟩
    rw [hv]
    rfl
  · have hlq : F' q < q := by have := hle q; omega
    have ee : ((F' q : Int) != (q : Int)) = true := by simp; omega
    have HH0 := root_half hle q
    have HR0 : rootF F' (F' (F' q)) = rootF F' q := by rw [root_step hle, root_step hle]
    have hr2 := hle (F' q)
    have ur := hU.row (F' q) (by omega)
    obtain ⟨s, hs⟩ : ∃ s, F' q = s := ⟨_, rfl⟩
    rw [hs] at uq ee hlq HH0 HR0 hr2 ur
    obtain ⟨r, hr⟩ : ∃ r, F' s = r := ⟨_, rfl⟩
    rw [hr] at HH0 HR0 hr2 ur
    have HH : Shut (∀ j, rootF (setF F' q r) j = rootF F j) := fun j => (HH0 j).trans (hall.out j)
    have HR : Shut (rootF (setF F' q r) r = rootF F p) := (HH0 r).trans (HR0.trans hrt.out)
    clear HH0 HR0 hall hrt e hs hr hle
    have hsi : (s : Int) < (n : Int) := by omega
    have hr2q : r ≤ q := by omega
    go_upto_region 2 with fail
    refine wp_region_held_drew (S := fun w' => w'.cell? ⟨ub, 0, none⟩ = some (.slice (some ⟨g, 0, none⟩) n c)) (by kernel_rfl) ?_ (fun hHeld => ?_)
    · (try dsimp only)
      (first | (go_simp; done) | (go_keep; done))
    refine tq 0 hHeld ?_
    refine tq 1 hHeld ?_
    refine tq 2 hHeld ?_
    refine tq 3 hHeld ?_
    refine tq 4 hHeld ?_
    refine tq 5 hHeld ?_
    refine tq 6 hHeld ?_
    refine tq 7 hHeld ?_
    refine tq 8 hHeld ?_
    refine tq 9 hHeld ?_
    refine tq 10 hHeld ?_
    refine tq 11 hHeld ?_
    refine tq 12 hHeld ?_
    refine tq 13 hHeld ?_
    refine tq 14 hHeld ?_
    refine tc 15 fun K hK => ?_
    (go_simp
     refine tr hK (fun hHeld => ?_)
     clear hK K)
    refine tq 16 hHeld ?_
    refine tc 17 fun K hK => ?_
    (go_simp
     refine tr hK (fun hHeld => ?_)
     clear hK K)
    refine tq 18 hHeld ?_
    refine tc 19 fun K hK => ?_
    (go_simp
     have hU2 := hU.set (v := r) hqn hr2q
     have hF2 := hF.trans (Fr.setCell (X := fun b => b = g) (p := ⟨g, q, none⟩) rfl (.int .i64 (r : Int)))
     clear u0 uq ur
     replace hU2 := hU2.on (Below.drew (Below.refl _ _))
     replace hF2 := hF2.drew
     generalize (wr.setCell ⟨g, q, none⟩ (.int .i64 (r : Int))).drew = w5 at hU2 hF2 ⊢
     have u0 := hU2.hd
     refine tr hK (fun hHeld => ?_)
     clear hK K)
    refine wpAnyH_done (by kernel_rfl) ?_ _
    have uq := hU2.row q hqn
    rw [setF_at] at uq
    go_wp2_with fail
    go_roundw
    case rel => exact ⟨r, _, rfl, by omega, hU2, HH.out, HR.out, hF2⟩
    case measure => simp [intOf]; omega
theorem join_q (ub g n c p q : Nat) (F : Nat → Nat) (w : World) (h : Uf w ub g n c F) (hp : p < n) (hq : q < n) :
 Calls Tryz.prog 138 #[.pointer (some ⟨ub, 0, none⟩), .int .i64 (p : Int), .int .i64 (q : Int)] w fun e w' => e = .returned (.tuple #[]) ∧ (∃ F', Uf w' ub g n c F' ∧ ∀ j, rootF F' j = if rootF F j = max (rootF F p) (rootF F q) then min (rootF F p) (rootF F q) else rootF F j) ∧ Fr (fun b => b = g) w w' := by
 have hset := cset_map
 have lp := root_le F p
 have lq := root_le F q
 go_enter Tryz.func138, Tryz.ntmps138
 go_upto_region 1 with (first
  | (have _ := hF1; go_at_call 116; refine (top_q ub g n c q F1 _ hU1 hq).mono ?_; rintro e w2 ⟨rfl, ⟨F2, hU2, hE2⟩, hF2⟩)
  | (go_at_call 116; refine (top_q ub g n c p F _ h hp).mono ?_; rintro e w1 ⟨rfl, ⟨F1, hU1, hE1⟩, hF1⟩))
 have hE : ∀ j, rootF F2 j = rootF F j := fun j => (hE2 j).trans (hE1 j)
 have hF := hF1.trans hF2
 (try rw [hE1 q])
 have hU := hU2
 obtain ⟨F', hF'⟩ : ∃ F', F2 = F' := ⟨_, rfl⟩
 rw [hF'] at hU hE
 clear hE1 hE2 hF1 hF2 hU1 hU2 hF'
 have tp : ¬ F' (rootF F p) < rootF F p := by rw [← hE p]; exact root_top F' p
 have tq' : ¬ F' (rootF F q) < rootF F q := by rw [← hE q]; exact root_top F' q
 generalize hA0 : rootF F p = A at lp tp ⊢
 generalize hB0 : rootF F q = B at lq tq' ⊢
 have hA : Shut (rootF F p = A) := hA0
 have hB : Shut (rootF F q = B) := hB0
 have HE : Shut (∀ j, rootF F' j = rootF F j) := hE
 clear hA0 hB0 hE
 have u0 := hU.hd
 have ufA := hU.fz A (by omega)
 have ufB := hU.fz B (by omega)
 by_cases hAB : A < B
 · have i1 : (A : Int) < (B : Int) := by omega
   have i2 : ¬ (B : Int) < (A : Int) := by omega
   have i3 : (B : Int) < (n : Int) := by omega
   have uB := hU.row B (by omega)
   have hJ : Shut (∀ j, rootF (setF F' B A) j = if rootF F' j = B then A else rootF F' j) := root_join (m := A) (M := B) tp tq' (by omega)
   have hmx : Shut (max A B = B ∧ min A B = A) := by show _ ∧ _; omega
   have hU2 := hU.set (p := B) (v := A) (by omega) (by omega)
   clear tp tq' lp lq
   go_wp2_with fail
   go_end0
   exact ⟨rfl, ⟨_, hU2, fun j => by rw [hJ.out j, HE.out j, hA.out, hB.out, hmx.out.1, hmx.out.2]⟩, hF.trans (Fr.setCell (X := fun b => b = g) rfl _)⟩
 · by_cases hBA : B < A
   · have i1 : (B : Int) < (A : Int) := by omega
     have i2 : ¬ (A : Int) < (B : Int) := by omega
     have i3 : (A : Int) < (n : Int) := by omega
     have uB := hU.row A (by omega)
     have hJ : Shut (∀ j, rootF (setF F' A B) j = if rootF F' j = A then B else rootF F' j) := root_join (m := B) (M := A) tq' tp (by omega)
     have hmx : Shut (max A B = A ∧ min A B = B) := by show _ ∧ _; omega
     have hU2 := hU.set (p := A) (v := B) (by omega) (by omega)
     clear tp tq' lp lq
     go_wp2_with fail
     go_end0
     exact ⟨rfl, ⟨_, hU2, fun j => by rw [hJ.out j, HE.out j, hA.out, hB.out, hmx.out.1, hmx.out.2]⟩, hF.trans (Fr.setCell (X := fun b => b = g) rfl _)⟩
   · obtain rfl : A = B := by omega
     have i2 : ¬ (A : Int) < (A : Int) := by omega
     have i3 : (A : Int) < (n : Int) := by omega
     have uB := hU.row A (by omega)
     have hJ : Shut (∀ j, rootF (setF F' A A) j = if rootF F' j = A then A else rootF F' j) := root_join (m := A) (M := A) tp tp (by omega)
     have hmx : Shut (max A A = A ∧ min A A = A) := by show _ ∧ _; omega
     have hU2 := hU.set (p := A) (v := A) (by omega) (by omega)
     clear tp tq' lp lq
     go_wp2_with fail
     go_end0
     exact ⟨rfl, ⟨_, hU2, fun j => by rw [hJ.out j, HE.out j, hA.out, hB.out, hmx.out.1, hmx.out.2]⟩, hF.trans (Fr.setCell (X := fun b => b = g) rfl _)⟩
def mv7 (cb : Nat) (C : Nat → Int) (q : Nat) : List Value := [.int .i64 (C (q * 5 + 2)), .int .i64 (C (q * 5 + 3)), .int .i64 (C (q * 5 + 4)), .int .i64 (C (q * 5)), .pointer (some ⟨cb, 0, none⟩), .int .i64 (C (q * 5 + 1)), .pointer (some ⟨cb, 0, none⟩)]
def mvs (cb : Nat) (C : Nat → Int) : Nat → List Value
 | 0 => []
 | m + 1 => mvs cb C m ++ mv7 cb C m
theorem mvs_len (cb : Nat) (C : Nat → Int) : ∀ m, (mvs cb C m).length = m * 7
 | 0 => rfl
 | m + 1 => by rw [mvs, List.length_append, mvs_len cb C m]; show m * 7 + 7 = _; omega
theorem mvs_get (cb : Nat) (C : Nat → Int) : ∀ (m q i : Nat), q < m → i < 7 → (mvs cb C m)[q * 7 + i]? = (mv7 cb C q)[i]?
 | 0, q, i, h, _ => absurd h (Nat.not_lt_zero _)
 | m + 1, q, i, h, hi => by
  rw [mvs]
  by_cases e : q = m
  · subst e
    rw [List.getElem?_append_right (by rw [mvs_len]; omega), mvs_len, Nat.add_sub_cancel_left]
  · rw [List.getElem?_append_left (by rw [mvs_len]; omega)]
    exact mvs_get cb C m q i (by omega) hi
def ML (w : World) (base cb : Nat) (v : Value) (C : Nat → Int) (m : Nat) : Prop := w.ownsRow base 204 7 v m (mvs cb C m)
theorem ML.nil (w : World) (base cb : Nat) (C : Nat → Int) : ML w base cb (.slice none 0 0) C 0 := World.ownsRow_nil w base _ _
theorem ML.lt {w : World} {base cb m : Nat} {v : Value} {C : Nat → Int} (h : ML w base cb v C m) : ∀ b, v.ownBlock = some b → base ≤ b ∧ b < w.heap.size := World.ownsRow.lt h
theorem ML.frame {X : Nat → Prop} {w w' : World} {base cb m : Nat} {v : Value} {C : Nat → Int} (h : ML w base cb v C m) (hs : Fr X w w') (hX : ∀ b, v.ownBlock = some b → ¬ X b) : ML w' base cb v C m := by
 refine ⟨h.1, ?_⟩
 rcases h.2 with q | ⟨g, cap, cur, hv, hb, hg, rest⟩
 · exact .inl q
 · exact .inr ⟨g, cap, cur, hv, hb, (hs.block _ (Array.getElem?_eq_some_iff.1 hg).1 (hX g (by rw [hv]; rfl))).trans hg, rest⟩
theorem ML.below {w w' : World} {base cb m : Nat} {v : Value} {C : Nat → Int} (h : ML w base cb v C m) (hb : Below w.heap.size w w') : ML w' base cb v C m := h.frame (X := fun _ => False) (Fr.of_below hb) (fun _ _ h => h)
theorem ML.isCells {w : World} {base cb m : Nat} {v : Value} {C : Nat → Int} (h : ML w base cb v C m) : ∀ b o, v.ownBlock = some b → w.heap[b]? = some o → o.isCells = true := by
 intro b o hb ho
 rcases h.2 with ⟨hv, _⟩ | ⟨g, cap, cur, hv, _, hg, _⟩
 · subst hv; cases hb
 · subst hv
   simp only [Value.ownBlock, Option.some.injEq] at hb
   subst hb
   rw [hg] at ho; cases ho; rfl
theorem ML.is {w : World} {base cb m : Nat} {v : Value} {C : Nat → Int} (h : ML w base cb v C m) : (m = 0 ∧ v = .slice none 0 0) ∨ ∃ g c, v = .slice (some ⟨g, 0, none⟩) m c := by
 rcases h.2 with ⟨hv, e⟩ | ⟨g, cap, cur, hv, _⟩
 · exact .inl ⟨e, hv⟩
 · exact .inr ⟨_, _, hv⟩
theorem ML.rg {w : World} {base cb m g c rb : Nat} {C : Nat → Int} (h : ML w base cb (.slice (some ⟨g, 0, none⟩) m c) C m) (c0 : w.cell? ⟨rb, 0, none⟩ = some (.slice (some ⟨g, 0, none⟩) m c)) (c1 : w.cell? ⟨rb, 1, none⟩ = some (.int .i64 0)) (f1 : w.frozen? ⟨rb, 1, none⟩ = false) (ne : rb ≠ g) : Rg w rb g m c cb C 0 :=
 ⟨c0, c1, f1, fun q hq => by
  have k := fun i (hi : i < 7) => (World.ownsRow.cellAt h (q * 7 + i) (by omega)).trans (mvs_get cb C m q i hq hi)
  exact ⟨k 0 (by omega), k 1 (by omega), k 2 (by omega), k 3 (by omega), k 4 (by omega), k 5 (by omega), k 6 (by omega)⟩, (h.lt g rfl).2, cell_lt (a := ⟨rb, 0, none⟩) c0, ne⟩
abbrev zcMeet : Value := .agg #[.int .i64 0, .int .i64 0, .int .i64 0, .int .i64 0, .pointer none, .int .i64 0, .pointer none]
theorem infoMeet : (Tryz.prog.info? 204).map (fun i => (i.zero, i.size, i.bytes)) = some (some zcMeet, 7, 56) := by kernel_rfl
theorem step_mapp {ops : Array Oper} {o : Oper} {a : Act} {K : Act → World → Prop} {Q : Exit → Act → World → Prop} {E : Prop} {w : World} (hgd : o.guard = none) (s x : Operand) (t : TypeId)
 (ho : o.op = .call { callee := .builtin .append, args := #[s, x], argTypes := #[t, t] })
 (ht : Tryz.prog.underlying t = some (.slice 204))
 (base cb : Nat) (v : Value) (C : Nat → Int) (m : Nat) (hs : a.eval s = v) (h : ML w base cb v C m) (b : Nat) (hx : a.eval x = .slice (some ⟨b, 0, none⟩) 1 1)
 (hn : ∀ i, i < 7 → w.cell? ⟨b, i, none⟩ = (mv7 cb C m)[i]?) (hm : m ≤ 1000) (hbase : base ≤ w.heap.size)
 (hK : ∀ g' c' w', ML w' base cb (.slice (some ⟨g', 0, none⟩) (m + 1) c') C (m + 1) → w.grownBy w' v.ownBlock → K (a.put o.dst (.slice (some ⟨g', 0, none⟩) (m + 1) c')) w') :
 if Region.wanted o (yielded ops a.tmps) = true then Oper.wp Tryz.prog o a w K Q else E := by
 obtain ⟨i, hi, hzz⟩ := Option.map_eq_some_iff.1 infoMeet
 simp only [Prod.mk.injEq] at hzz
 obtain ⟨hz, hsz, hb8⟩ := hzz
 refine step_append_lies w hgd s x t ho base 204 i zcMeet 7 56 ht hi hz hsz hb8 rfl (by decide) v m (mvs cb C m) hs h ⟨b, 0, none⟩ 1 1 (mv7 cb C m) hx rfl ?_ ?_ (by decide) (by unfold maxLen; omega) (by omega) hbase _ rfl ?_
 · intro q u hu
   have hq : q < 7 := by
    have := (List.getElem?_eq_some_iff.1 hu).1
    exact this
   have hadd : (⟨b, 0, none⟩ : Addr).add q = ⟨b, q, none⟩ := by unfold Addr.add; split <;> simp_all
   rw [hadd, hn q hq]; exact hu
 · intro u hu; simp only [mv7, List.mem_cons, List.not_mem_nil, or_false] at hu; rcases hu with rfl | rfl | rfl | rfl | rfl | rfl | rfl <;> rfl
 · intro g' cap' w' r1 r2 r3 r4
   exact hK g' cap' w' r1 r2
def atB (n : Nat) (a b x y d : Int) : Bool := hitB x y d && (decide (0 ≤ a ∧ a < (n : Int)) && (decide (0 ≤ b ∧ b < (n : Int)) && !decide (a = b)))
theorem handle_i (cb : Nat) (a : Int) (w : World) (ha : 0 ≤ a) :
 Calls Tryz.prog 86 #[.pointer (some ⟨cb, 0, none⟩), .int .i64 a] w fun e w' => e = .returned (.agg #[.int .i64 a, .pointer (some ⟨cb, 0, none⟩)]) ∧ Below w.heap.size w w' := by
 obtain ⟨A, rfl⟩ : ∃ A : Nat, a = (A : Int) := ⟨a.toNat, by omega⟩
 exact handle_any cb A w
theorem meetingAt_yes {cb n : Nat} {C : Nat → Nat → Int} {S : Nat → Value} {w : World} (hC : Cs w cb n C S) (hn : n ≤ 1048576) (a b x y d : Int) (e : atB n a b x y d = true) :
 Calls Tryz.prog 141 #[.pointer (some ⟨cb, 0, none⟩), .agg #[.int .i64 a, .int .i64 b, .int .i64 x, .int .i64 y, .int .i64 d]] w fun e w' => e = .returned (.tuple #[.agg #[.int .i64 x, .int .i64 y, .int .i64 d, .int .i64 a, .pointer (some ⟨cb, 0, none⟩), .int .i64 b, .pointer (some ⟨cb, 0, none⟩)], .bool true]) ∧ Below w.heap.size w w' := by
 have hset := cset_map
 have l1 := hC.lt
 obtain ⟨ad, cc, hS0⟩ := (hC.own 0 (by omega)).is
 have hd0 := hC.hd 0 (by omega)
 rw [hS0] at hd0
 clear hS0
 unfold atB at e
 simp only [Bool.and_eq_true, decide_eq_true_eq, Bool.not_eq_true', decide_eq_false_iff_not] at e
 obtain ⟨k1, ha, hb, hab⟩ := e
 obtain ⟨mi, emi⟩ : ∃ mi, (if b < a then b else a) = mi := ⟨_, rfl⟩
 obtain ⟨ma, ema⟩ : ∃ ma, (if a < b then b else a) = ma := ⟨_, rfl⟩
 have k2 : ¬ (mi < 0) := by split at emi <;> omega
 have k3 : ¬ ((n : Int) ≤ ma) := by split at ema <;> omega
 have d2 : decide (mi < 0) = false := decide_eq_false k2
 have d3 : decide ((n : Int) ≤ ma) = false := decide_eq_false k3
 have d5 : decide (a = b) = false := decide_eq_false hab
 have k4 : (a == b) = false := by simp [hab]
 have k5 : (a = b) = False := eq_false hab
 go_enter Tryz.func141, Tryz.ntmps141
 go_upto_region 2 with (go_at_call 152; refine (dentOf_q _ _ _ _ _ (by with_reducible assumption)).mono ?_; rintro e w1 ⟨rfl, hb1⟩; have hz1 := hb1.size; (try simp only [zz] at hz1); have := kf2 hb1 w.heap.size; have := kfa hb1 cb)
 refine wp_region_held_drew (S := fun w' => w'.cell? ⟨w.heap.size, 0, none⟩ = some (.int .i64 a) ∧ w'.cell? ⟨w.heap.size, 1, none⟩ = some (.int .i64 b) ∧ w'.cell? ⟨w.heap.size, 2, none⟩ = some (.int .i64 x) ∧ w'.cell? ⟨w.heap.size, 3, none⟩ = some (.int .i64 y) ∧ w'.cell? ⟨w.heap.size, 4, none⟩ = some (.int .i64 d) ∧ w'.cell? ⟨cb, 0, none⟩ = some (.slice ad n cc)) (by kernel_rfl) ?_ (fun hHeld => ?_)
 · (try dsimp only)
   (first | (go_simp; done) | (go_keep; done))
 refine tq 0 hHeld ?_
 refine tq 1 hHeld ?_
 refine tq 2 hHeld ?_
 refine tq 3 hHeld ?_
 refine tq 4 hHeld ?_
 refine tq 5 hHeld ?_
 refine tq 6 hHeld ?_
 refine tq 7 hHeld ?_
 refine tq 8 hHeld ?_
 refine tq 9 hHeld ?_
 refine tq 10 hHeld ?_
 refine tq 11 hHeld ?_
 refine tq 12 hHeld ?_
 refine tq 13 hHeld ?_
 refine tq 14 hHeld ?_
 refine tq 15 hHeld ?_
 refine tq 16 hHeld ?_
 refine tq 17 hHeld ?_
 refine tq 18 hHeld ?_
 refine tq 19 hHeld ?_
 refine tq 20 hHeld ?_
 refine tq 21 hHeld ?_
 refine tq 22 hHeld ?_
 refine tq 23 hHeld ?_
 refine tq 24 hHeld ?_
 refine tq 25 hHeld ?_
 refine tq 26 hHeld ?_
 refine tq 27 hHeld ?_
 refine tq 28 hHeld ?_
 refine tq 29 hHeld ?_
 refine wpAnyH_done (by kernel_rfl) ?_ _
 go_upto_region 4 with fail
 refine wp_region_held_drew (S := fun w' => w'.cell? ⟨w.heap.size, 0, none⟩ = some (.int .i64 a) ∧ w'.cell? ⟨w.heap.size, 1, none⟩ = some (.int .i64 b) ∧ w'.cell? ⟨w.heap.size, 2, none⟩ = some (.int .i64 x) ∧ w'.cell? ⟨w.heap.size, 3, none⟩ = some (.int .i64 y) ∧ w'.cell? ⟨w.heap.size, 4, none⟩ = some (.int .i64 d) ∧ w'.cell? ⟨w1.heap.size, 0, none⟩ = some (.int .i64 x) ∧ w'.cell? ⟨w1.heap.size, 1, none⟩ = some (.int .i64 y) ∧ w'.cell? ⟨w1.heap.size, 2, none⟩ = some (.int .i64 d)) (by kernel_rfl) ?_ (fun hHeld => ?_)
 · (try dsimp only)
   (first | (go_simp; done) | (go_keep; done))
 refine tq 0 hHeld ?_
 refine tq 1 hHeld ?_
 refine tq 2 hHeld ?_
 refine tq 3 hHeld ?_
 refine tq 5 hHeld ?_
 refine tq 6 hHeld ?_
 refine tq 7 hHeld ?_
 (refine tc 4 fun K hK => ?_; go_simp; (go_at_call 86; refine (handle_i cb a _ ha.1).mono ?_; rintro e w2 ⟨rfl, hb2⟩; have hz2 := hb2.size; (try simp only [zz] at hz2); have := kf2 hb2 w.heap.size; have := kfa hb2 w1.heap.size); (try go_wp2_with fail); refine tr hK (fun hHeld => ?_); clear hK K)
 (refine tc 8 fun K hK => ?_; go_simp; (go_at_call 86; refine (handle_i cb b _ hb.1).mono ?_; rintro e w3 ⟨rfl, hb3⟩; have hz3 := hb3.size; (try simp only [zz] at hz3); have := kf2 hb3 w.heap.size; have := kfa hb3 w1.heap.size); (try go_wp2_with fail); refine tr hK (fun hHeld => ?_); clear hK K)
 refine tq 9 hHeld ?_
 (refine tc 10 fun K hK => ?_; go_simp; refine tr hK (fun hHeld => ?_); clear hK K)
 refine tq 11 hHeld ?_
 refine wpAnyH_done (by kernel_rfl) ?_ _
 go_wp2_with fail
 exact bodyPost_ret (v := .tuple #[.agg #[.int .i64 x, .int .i64 y, .int .i64 d, .int .i64 a, .pointer (some ⟨cb, 0, none⟩), .int .i64 b, .pointer (some ⟨cb, 0, none⟩)], .bool true]) (by simp [results, Tryz.results141, go_sem, *]) rfl ⟨rfl, bel_a⟩
end Go.Proofs.YtmnhankcbkfhaaaGreatDoor
