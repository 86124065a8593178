/- Texts of a proof. -/
import Derived.Test.YtalkkjhehndaoaaGreatB54
import Derived.Deep.RegionHeld3
import Derived.Deep.DeepCutAuto
import Derived.Laws.MakeOwn
set_option maxHeartbeats 16000000
set_option maxRecDepth 20000
namespace Go.Proofs.YtalkkjhehndaoaaGreat
open Go.RowKit
set_option linter.unusedVariables false
set_option linter.unusedSimpArgs false
theorem LV.madeB (w : World) (n : Nat) (hn : n ≤ maxLen) : LV w (w.alloc (.cells (madeCells #[.bool false] n) 4)) 4 w.heap.size n n (BV (List.replicate n false)) := by
 have e : (madeCells #[Value.bool false] n).toList = BV (List.replicate n false) := by
  unfold madeCells BV
  apply List.ext_getElem?
  intro j
  by_cases h : j < n
  · simp [h, Nat.mod_one]
  · simp [h]
 refine ⟨(Below.refl _ _).alloc (Nat.le_refl _) _, by rw [BV_len, List.length_replicate], by rw [BV_len, List.length_replicate, Nat.mul_one], .inr ⟨w.heap.size, n, _, rfl, Nat.le_refl _, Go.Deep.blk_alloc_new _ _, Nat.le_refl _, hn, by rw [size_madeCells, Nat.mul_one], ?_⟩⟩
 rw [e, Nat.mul_one, List.take_of_length_le (by rw [BV_len, List.length_replicate]; exact Nat.le_refl _)]
theorem bods_mass {U : Nat → Int} {n k : Nat} (h : bodsB n U = true) (l : k < n) : 0 ≤ U (k * 12 + 8) := by
 unfold bodsB at h
 rw [Bool.and_eq_true] at h
 have h2 : bodyB (fun j => U (k * 12 + j)) = true := by
  have key : ∀ m, allBB U m = true → k < m → stepBB U k = true := by
   intro m
   induction m with
   | zero => intro _ l; omega
   | succ m ih =>
    intro hm l
    unfold allBB at hm
    rw [Bool.and_eq_true] at hm
    by_cases e : k = m
    · subst e; exact hm.2
    · exact ih hm.1 (by omega)
  have := key n h.2 l
  unfold stepBB at this
  rw [Bool.and_eq_true] at this
  exact this.1
 unfold bodyB at h2
 simp only [Bool.and_eq_true] at h2
 exact (of_decide_eq_true h2.2.2.2.2.1).1
structure Cm (w wz : World) (g n : Nat) (X : Nat → Bool) : Prop where
 lv : ∃ l, LV w wz 4 g n n (BV l) ∧ ∀ j, j < n → l.getD j false = X j
section
variable {w wz w' : World} {g n : Nat} {X Y : Nat → Bool}
theorem Cm.cell (h : Cm w wz g n X) {j : Nat} (hj : j < n) : wz.cell? ⟨g, j, none⟩ = some (.bool (X j)) := by obtain ⟨l, h1, h2⟩ := h.lv; rw [← h2 j hj]; exact h1.bc hj
theorem Cm.fro (h : Cm w wz g n X) (j : Nat) : wz.frozen? ⟨g, j, none⟩ = false := by obtain ⟨l, h1, h2⟩ := h.lv; exact h1.fro j
theorem Cm.bel (h : Cm w wz g n X) : Below w.heap.size w wz := by obtain ⟨l, h1, h2⟩ := h.lv; exact h1.bel
theorem Cm.on (h : Cm w wz g n X) (hb : Below wz.heap.size wz w') : Cm w w' g n X := by obtain ⟨l, h1, h2⟩ := h.lv; exact ⟨l, h1.on hb, h2⟩
theorem Cm.dr (h : Cm w wz g n X) : Cm w wz.drew g n X := h.on (Below.drew (Below.refl _ _))
theorem Cm.congr (h : Cm w wz g n X) (e : ∀ j, j < n → X j = Y j) : Cm w wz g n Y := by obtain ⟨l, h1, h2⟩ := h.lv; exact ⟨l, h1, fun j hj => (h2 j hj).trans (e j hj)⟩
theorem Cm.set (h : Cm w wz g n X) {q : Nat} (hq : q < n) : Cm w (wz.setCell ⟨g, q, none⟩ (.bool true)) g n (fun j => if j = q then true else X j) := by
 obtain ⟨l, h1, h2⟩ := h.lv
 have hl := h1.len
 rw [BV_len] at hl
 refine ⟨l.set q true, by rw [← BV_set]; exact h1.set q _, fun j hj => ?_⟩
 rw [getD_set _ _ _ _ (by omega), h2 j hj]
theorem Cm.made (w : World) (hn : n ≤ maxLen) : Cm w (w.alloc (.cells (madeCells #[.bool false] n) 4)) w.heap.size n (fun _ => false) :=
 ⟨_, LV.madeB w n hn, fun j hj => by rw [List.getD_eq_getElem?_getD, List.getElem?_replicate]; split <;> rfl⟩
end
theorem least {U : Nat → Int} {L : Nat → Nat} {n M i k : Nat} {G : Nat → Int} {X : Nat → Bool} {E : Nat → Option (Nat × Nat)} (hT : Tops (fxU U) L) (hG : ∀ j, j < n → G j = gnum (fxU U) L j) (hi : i < n) (hk : k < n) (h0 : ¬ G i < 0) (he : G k = G i)
 (hXS : ∀ X : Nat → Prop, (∀ i A B, i < M → E i = some (A, B) → (X A ↔ X B)) → ∀ j, X (L j) ↔ X j) (hcl : Clo E M X) (hXi : X i = true) : X k = true := by
 have g1 := hG i hi
 have g2 := hG k hk
 have hL : L k = L i := by
  unfold gnum at g1 g2
  by_cases a : fxU U i = true
  · rw [if_pos a] at g1; omega
  · rw [if_neg a] at g1
    by_cases b : fxU U k = true
    · rw [if_pos b] at g2; omega
    · rw [if_neg b] at g2
      exact cntp_inj _ (hT.fst (by simpa using b)) (hT.fst (by simpa using a)) (by omega)
 have hX := hXS (fun j => X j = true) (fun q A B hq e => by rw [hcl q A B hq e])
 exact (hX k).1 (hL ▸ (hX i).2 hXi)
theorem fnGroupsLeast_walk (a : Option Addr) (len cap : Nat) (w : World) (hb : Bytes w a len cap) :
 Calls Tryz.prog 4 #[.slice a len cap] w fun e w' => e = .returned (.bool true) ∧ Below w.heap.size w w' := by
 have hset := cset_map
 go_enter Tryz.func4, Tryz.ntmps4
 go_upto_region 4 with (go_at_call 6; refine (drawGroups_any _ _ _ _ hb).mono ?_; rintro e w1 ⟨al, n, c, U, rfl, hLn, hO⟩)
 · go_wp2_with fail
   go_ret
   exact ⟨rfl, Below.refl _ _⟩
 have hn13 := hLn.1
 have hn1 : n ≤ 1048576 := by omega
 obtain ⟨N, hN⟩ : ∃ N, (grpO n U).length = N := ⟨_, rfl⟩
 have hN12 := grpO_len n U
 have f1 := hO.own.flat
 have hw1 := hO.bel
 go_cut [4] (fun s4 wc => ∃ ag cg, s4 = .slice ag N cg ∧ Lg w wc al n U ag N (ofL (grpO n U)))
 case first =>
  go_wp2_with (go_at_call 7; refine (groupsI_q al n c U N _ f1 hn1 hN).mono ?_; rintro e w2 ⟨ag, cg, rfl, hO2⟩)
  go_meet
  exact ⟨_, _, rfl, f1.below hO2.bel, hO2.own.flat, hw1.trans (hO2.bel.mono hw1.size)⟩
 case rest =>
 obtain ⟨ag, cg, rfl, hL⟩ := hcut
 clear f1 hw1 hO
 cases eb : bodsB n U with
 | false =>
  go_wp2_with (first
   | (have _ := hb4; go_at_call 8; refine (pqInts_same ag a5 N cg c5 _ _ hL5.fg hO5.own.flat (by omega)).mono ?_; rintro e w6 ⟨rfl, hb6⟩)
   | (have _ := hb4; go_at_call 9; refine (groupsS_q al n c U N _ hL4.fl hn1 hN).mono ?_; rintro e w5 ⟨a5, c5, rfl, hO5⟩; have hL5 := hL4.on hO5.bel)
   | (have _ := hb3; go_at_call 10; refine (sBodiesOk_q al n c U _ _ hL3.fl hn1 eb).mono ?_; rintro e w4 ⟨rfl, hb4⟩; have hL4 := hL3.on hb4)
   | (go_at_call 8; refine (pqInts_same ag a2 N cg c2 _ _ hL2.fg hO2.own.flat (by omega)).mono ?_; rintro e w3 ⟨rfl, hb3⟩; have hL3 := hL2.on hb3)
   | (go_at_call 9; refine (groupsS_q al n c U N _ hL.fl hn1 hN).mono ?_; rintro e w2 ⟨a2, c2, rfl, hO2⟩; have hL2 := hL.on hO2.bel))
  go_ret
  exact ⟨rfl, (hL5.on hb6).bel⟩
 | true =>
  have hn12 := bods_n eb
  obtain ⟨hM, hMk⟩ := conN_eq U hn12
  have hCt := con_ct (colOf U) hM
  have hG0 := grpU_eq (U := U) hn12
  have hT0 := lab_tops U (ofL (conL (colOf U) n)) (conN n U)
  have hE0 := fun k A B (hk : k < conN n U) => lab_edge (edg U (ofL (conL (colOf U) n))) (conN n U) k A B hk
  have hX0 := fun (X : Nat → Prop) => lab_set (edg U (ofL (conL (colOf U) n))) X (conN n U)
  obtain ⟨L, hLe⟩ : ∃ L, lab (edg U (ofL (conL (colOf U) n))) (conN n U) = L := ⟨_, rfl⟩
  rw [hLe] at hG0 hT0 hE0 hX0
  clear hLe
  have hNn : n = N := by rw [grpO_y eb] at hN; rw [← hN]; exact (grpL_len _ _ _ _).symm
  subst hNn
  go_upto_region 7 with (first
   | (have _ := hb3; go_at_call 10; refine (sBodiesOk_q al n c U _ _ hL3.fl hn1 eb).mono ?_; rintro e w4 ⟨rfl, hb4⟩; have hL4 := hL3.on hb4)
   | (go_at_call 8; refine (pqInts_same ag a2 n cg c2 _ _ hL2.fg hO2.own.flat (by omega)).mono ?_; rintro e w3 ⟨rfl, hb3⟩; have hL3 := hL2.on hb3)
   | (go_at_call 9; refine (groupsS_q al n c U n _ hL.fl hn1 hN).mono ?_; rintro e w2 ⟨a2, c2, rfl, hO2⟩; have hL2 := hL.on hO2.bel))
  rw [grpO_y eb] at hL4
  clear hL hO2 hL2 hb3 hL3 hb4 hN hN12
  generalize ofL (grpU n U) = G at hG0 hL4
  have hG : Shut (∀ j, j < n → G j = gnum (fxU U) L j) := hG0
  have hT : Shut (Tops (fxU U) L) := hT0
  have hED : Shut (∀ k A B, k < conN n U → edg U (ofL (conL (colOf U) n)) k = some (A, B) → L A = L B) := hE0
  have hXS : Shut (∀ X : Nat → Prop, (∀ i A B, i < conN n U → edg U (ofL (conL (colOf U) n)) i = some (A, B) → (X A ↔ X B)) → ∀ j, X (L j) ↔ X j) := hX0
  clear hG0 hT0 hE0 hX0
  obtain ⟨M, hMe⟩ : ∃ M, conN n U = M := ⟨_, rfl⟩
  rw [hMe] at hM hMk hCt hED hXS
  have hcR : (conR n U).length = M * 5 := by unfold conR; rw [eb]; exact hM
  have hcE : conR n U = conL (colOf U) n := by unfold conR; rw [eb]; rfl
  clear hMe hED
  have hms : Shut (∀ j, j < n → 0 ≤ U (j * 12 + 8)) := fun j hj => bods_mass eb hj
  go_upto_region 9 with (go_at_call 11; refine (contactsI_q al n c U M _ hL4.fl hn1 hcR).mono ?_; rintro e w5 ⟨ac, cc, rfl, hO5⟩; rw [hcE] at hO5)
  have hL5 := hL4.on hO5.bel
  have hfc := hO5.own.flat
  clear hcR hcE hM hL4 hO5
  generalize ofL (conL (colOf U) n) = C at hCt hXS hfc
  have hEd : Shut (∀ i A B, i < M → edg U C i = some (A, B) → A < n ∧ B < n) := fun i A B hi e => by
   have ha := hCt.a i hi
   have hb := hCt.b i hi
   unfold edg at e
   split at e
   · simp only [Option.some.injEq, Prod.mk.injEq] at e
     obtain ⟨rfl, rfl⟩ := e
     omega
   · cases e
  have hmk : ∀ w, (Instr.makeSlice 42 (.int .i64 (n : Int)) (.int .i64 (n : Int))).run Tryz.prog w = .ok (.slice (some ⟨w.heap.size, 0, none⟩) n n) (w.alloc (.cells (madeCells #[.bool false] n) 4)) := fun w => by have q := make_rows (P := Tryz.prog) 42 4 (.bool false) 1 1 Tryz.underlying42 (by kernel_rfl) .i64 .i64 n (by omega) (by omega) w; rw [Nat.mul_one] at q; exact q
  go_loopw [6, 7, 8, 9, 10, 11, 12] (fun s6 _ _ _ _ _ _ wr => ∃ i : Nat, i ≤ n ∧ s6 = .int .i64 (i : Int) ∧ Lg w wr al n U ag n G ∧ Flat wr ac (M * 5) C) (fun s6 _ _ _ _ _ _ _ => n - (intOf s6).toNat)
  case atStart => exact ⟨0, Nat.zero_le _, rfl, hL5, hfc⟩
  case round =>
   clear hL5 hfc
   obtain ⟨i, hi, rfl, hL, hfc⟩ := hrel
   by_cases hlt : i < n
   · have hin : (i : Int) < (n : Int) := by omega
     obtain ⟨b3, o3, e3, hb3l, hc3⟩ := hL.fg (by omega)
     have r0 : wr.cell? ⟨b3, o3 + i, none⟩ = some (.int .i64 (G i)) := hc3 i (by omega)
     clear hc3
     subst e3
     by_cases hg0 : G i < 0
     · go_wp2_with fail
       go_roundw
       case rel => exact ⟨i + 1, by omega, by go_num, by first | exact hL | exact hL.dr, hfc⟩
       case measure => simp [intOf]; omega
     · have hC0 : Cm wr (wr.alloc (.cells (madeCells #[.bool false] n) 4)) wr.heap.size n (fun _ => false) := Cm.made wr (by unfold maxLen; omega)
       have hC1 := hC0.set hlt
       have c0 := hC0.cell hlt
       have f0 := hC0.fro i
       have hsa : (wr.alloc (.cells (madeCells #[.bool false] n) 4)).setCell ⟨wr.heap.size, i, none⟩ (.bool true) = wr.alloc (.cells ((madeCells #[.bool false] n).setIfInBounds i (.bool true)) 4) := by simp [go_sem]
       rw [hsa] at hC1
       clear hsa
       go_upto_region 15 with fail
       generalize wr.alloc (.cells ((madeCells #[.bool false] n).setIfInBounds i (.bool true)) 4) = w6 at hC1 ⊢
       clear hC0 c0 f0 r0
       obtain ⟨X0, hX0⟩ : ∃ X : Nat → Bool, (fun j => if j = i then true else false) = X := ⟨_, rfl⟩
       have hX0i : X0 i = true := by rw [← hX0]; simp
       rw [hX0] at hC1
       clear hX0
       generalize wr.heap.size = g at hC1 ⊢
       go_loopw [8, 9, 10, 11] (fun s8 _ _ _ wq => ∃ r : Nat, r ≤ n ∧ s8 = .int .i64 (r : Int) ∧ Cm wr wq g n (crds (edg U C) M X0 r)) (fun s8 _ _ _ _ => n - (intOf s8).toNat)
       case atStart => exact ⟨0, Nat.zero_le _, rfl, hC1⟩
       case round =>
        clear hC1
        obtain ⟨r, hr, rfl, hC⟩ := hrel
        by_cases hrl : r < n
        · have hrn : (r : Int) < (n : Int) := by omega
          go_upto_region 18 with fail
          go_loopw [9, 10, 11] (fun s9 _ _ wq => ∃ k : Nat, k ≤ M ∧ s9 = .int .i64 (k : Int) ∧ Cm _ wq g n (crd (edg U C) (crds (edg U C) M X0 r) k)) (fun s9 _ _ _ => M - (intOf s9).toNat)
          case atStart => exact ⟨0, Nat.zero_le _, rfl, hC⟩
          case round =>
           clear hC
           obtain ⟨k, hk, rfl, hC⟩ := hrel
           by_cases hkl : k < M
           · have hkM : (k : Int) < (M : Int) := by omega
             have ca := hCt.a k hkl
             have cb2 := hCt.b k hkl
             obtain ⟨b1, o1, e1, hbl1, hc1⟩ := (hfc.below hC.bel) (by omega)
             obtain ⟨b0, o0, e0, hb0l, hc0⟩ := (hL.fl.below hC.bel) (by omega)
             have r0 := hc1 (k * 5) (by omega)
             have r1 := hc1 (k * 5 + 1) (by omega)
             simp only [← Nat.add_assoc] at r0 r1
             obtain ⟨A, hA⟩ : ∃ A : Nat, C (k * 5) = (A : Int) := ⟨(C (k * 5)).toNat, by omega⟩
             obtain ⟨B, hBB⟩ : ∃ B : Nat, C (k * 5 + 1) = (B : Int) := ⟨(C (k * 5 + 1)).toNat, by omega⟩
             have hd0 : edg U C k = if U (A * 12 + 8) ≠ 0 ∧ U (B * 12 + 8) ≠ 0 then some (A, B) else none := by unfold edg; rw [hA, hBB]; rfl
             have hd : Shut (edg U C k = if U (A * 12 + 8) ≠ 0 ∧ U (B * 12 + 8) ≠ 0 then some (A, B) else none) := hd0
             rw [hA] at ca r0
             rw [hBB] at cb2 r1
             clear hA hBB hd0
             have hAn : A < n := by omega
             have hBn : B < n := by omega
             have hAi : (A : Int) < (n : Int) := by omega
             have hBi : (B : Int) < (n : Int) := by omega
             have mA : wr.cell? ⟨b0, o0 + A * 12 + 8, none⟩ = some (.int .i64 (U (A * 12 + 8))) := by have q := hc0 (A * 12 + 8) (by omega); simpa [Nat.add_assoc] using q
             have mB : wr.cell? ⟨b0, o0 + B * 12 + 8, none⟩ = some (.int .i64 (U (B * 12 + 8))) := by have q := hc0 (B * 12 + 8) (by omega); simpa [Nat.add_assoc] using q
             subst e1 e0
             clear hc1 hc0
             have zA := hms.out A hAn
             have zB := hms.out B hBn
             obtain ⟨X, hX⟩ : ∃ X, crd (edg U C) (crds (edg U C) M X0 r) k = X := ⟨_, rfl⟩
             have hXn : Shut (crd (edg U C) (crds (edg U C) M X0 r) (k + 1) = cst X (edg U C k)) := by show _ = _; rw [crd, hX]
             rw [hX] at hC
             clear hX
             have xA := hC.cell hAn
             have xB := hC.cell hBn
             have fA := hC.fro A
             have fB := hC.fro B
             by_cases pA : 0 < U (A * 12 + 8)
             · by_cases pB : 0 < U (B * 12 + 8)
               · have hs : Shut (edg U C k = some (A, B)) := by show _ = _; rw [hd.out, if_pos ⟨by omega, by omega⟩]
                 have hCs := (hC.set hAn).set hBn
                 have x2 := (hC.set hAn).cell hBn
                 have f2 := (hC.set hAn).fro B
                 cases hxA : X A with
                 | true =>
                  rw [hxA] at xA
                  have hn2 : Cm _ _ g n (crd (edg U C) (crds (edg U C) M X0 r) (k + 1)) := hCs.congr fun j _ => by
                   rw [hXn.out, hs.out]
                   show _ = if (X A || X B) = true ∧ (j = A ∨ j = B) then true else X j
                   rw [hxA, Bool.true_or]
                   by_cases e1 : j = B
                   · rw [if_pos e1, if_pos ⟨rfl, .inr e1⟩]
                   · rw [if_neg e1]
                     by_cases e2 : j = A
                     · rw [if_pos e2, if_pos ⟨rfl, .inl e2⟩]
                     · rw [if_neg e2, if_neg (fun q => q.2.elim e2 e1)]
                  go_wp2_with fail
                  go_roundw
                  case rel => exact ⟨k + 1, by omega, by go_num, hn2⟩
                  case measure => simp [intOf]; omega
                 | false =>
                  rw [hxA] at xA
                  cases hxB : X B with
                  | true =>
                   rw [hxB] at xB
                   have hn2 : Cm _ _ g n (crd (edg U C) (crds (edg U C) M X0 r) (k + 1)) := hCs.congr fun j _ => by
                    rw [hXn.out, hs.out]
                    show _ = if (X A || X B) = true ∧ (j = A ∨ j = B) then true else X j
                    rw [hxB, Bool.or_true]
                    by_cases e1 : j = B
                    · rw [if_pos e1, if_pos ⟨rfl, .inr e1⟩]
                    · rw [if_neg e1]
                      by_cases e2 : j = A
                      · rw [if_pos e2, if_pos ⟨rfl, .inl e2⟩]
                      · rw [if_neg e2, if_neg (fun q => q.2.elim e2 e1)]
                   go_wp2_with fail
                   go_roundw
                   case rel => exact ⟨k + 1, by omega, by go_num, hn2⟩
                   case measure => simp [intOf]; omega
                  | false =>
                   rw [hxB] at xB
                   have hn2 : Cm _ _ g n (crd (edg U C) (crds (edg U C) M X0 r) (k + 1)) := hC.congr fun j _ => by
                    rw [hXn.out, hs.out]
                    show _ = if (X A || X B) = true ∧ (j = A ∨ j = B) then true else X j
                    rw [hxA, hxB, if_neg (fun q => by cases q.1)]
                   go_wp2_with fail
                   go_roundw
                   case rel => exact ⟨k + 1, by omega, by go_num, hn2⟩
                   case measure => simp [intOf]; omega
               · have hn2 : Cm _ _ g n (crd (edg U C) (crds (edg U C) M X0 r) (k + 1)) := hC.congr fun j _ => by rw [hXn.out, hd.out, if_neg (fun q => by omega)]; rfl
                 go_wp2_with fail
                 go_roundw
                 case rel => exact ⟨k + 1, by omega, by go_num, hn2⟩
                 case measure => simp [intOf]; omega
             · have hn2 : Cm _ _ g n (crd (edg U C) (crds (edg U C) M X0 r) (k + 1)) := hC.congr fun j _ => by rw [hXn.out, hd.out, if_neg (fun q => by omega)]; rfl
               go_wp2_with fail
               go_roundw
               case rel => exact ⟨k + 1, by omega, by go_num, hn2⟩
               case measure => simp [intOf]; omega
           · obtain rfl : k = M := by omega
             go_wp2_with fail
             go_roundw
             case rel => exact ⟨r + 1, by omega, by go_num, hC⟩
             case measure => simp [intOf]; omega
        · obtain rfl : n = r := by omega
          have hcl := crds_clo (edg U C) M n hEd.out hlt hX0i
          have hXi := crds_up (edg U C) M hX0i n
          generalize crds (edg U C) M X0 n = X at hC hcl hXi
          have hlst : Shut (∀ k, k < n → G k = G i → X k = true) := fun k hk he => least hT.out hG.out hlt hk (by omega) he hXS.out hcl hXi
          clear hcl hXi
          go_upto_region 26 with fail
          go_loopw [12] (fun s12 wq => ∃ k : Nat, k ≤ n ∧ s12 = .int .i64 (k : Int) ∧ Cm _ wq g n X) (fun s12 _ => n - (intOf s12).toNat)
          case atStart => exact ⟨0, Nat.zero_le _, rfl, hC⟩
          case round =>
           clear hC
           obtain ⟨k, hk, rfl, hC⟩ := hrel
           have hL6 := hL.on hC.bel
           by_cases hkl : k < n
           · have hkn : (k : Int) < (n : Int) := by omega
             obtain ⟨b3', o3', e3', hb3l', hc3⟩ := hL6.fg (by omega)
             cases e3'
             have r0 : wr.cell? ⟨b3, o3 + i, none⟩ = some (.int .i64 (G i)) := hc3 i (by omega)
             have r1 : wr.cell? ⟨b3, o3 + k, none⟩ = some (.int .i64 (G k)) := hc3 k (by omega)
             clear hc3
             have x0 := hC.cell hkl
             by_cases he : G k = G i
             · have he2 : (G k == G i) = true := beq_iff_eq.2 he
               have hxk := hlst.out k hkl he
               rw [hxk] at x0
               clear he hxk
               go_upto_region 28 with fail
               refine wp_region_held_drew (S := fun w' => w'.cell? ⟨b3, o3 + k, none⟩ = some (.int .i64 (G k)) ∧ w'.cell? ⟨b3, o3 + i, none⟩ = some (.int .i64 (G i)) ∧ w'.cell? ⟨g, k, none⟩ = some (.bool true)) (by kernel_rfl) ?_ (fun hHeld => ?_)
               · (try dsimp only)
                 (first | (go_simp; done) | (go_keep; done))
               refine tq 0 hHeld ?_
               refine tq 1 hHeld ?_
               refine tq 2 hHeld ?_
               refine tq 3 hHeld ?_
               refine tq 4 hHeld ?_
               refine tq 5 hHeld ?_
               refine tq 6 hHeld ?_
               refine tq 7 hHeld ?_
               refine tq 8 hHeld ?_
               refine tq 9 hHeld ?_
               refine tq 10 hHeld ?_
               refine tq 11 hHeld ?_
               refine tq 12 hHeld ?_
               refine tq 13 hHeld ?_
               refine tq 14 hHeld ?_
               refine tq 15 hHeld ?_
               refine wpAnyH_done (by kernel_rfl) ?_ _
               go_wp2_with fail
               go_roundw
               case rel => exact ⟨k + 1, by omega, by go_num, by first | exact hC | exact hC.dr⟩
               case measure => simp [intOf]; omega
             · have he2 : (G k == G i) = false := beq_eq_false_iff_ne.2 he
               clear he
               go_upto_region 28 with fail
               refine wp_region_held_drew (S := fun w' => w'.cell? ⟨b3, o3 + k, none⟩ = some (.int .i64 (G k)) ∧ w'.cell? ⟨b3, o3 + i, none⟩ = some (.int .i64 (G i)) ∧ w'.cell? ⟨g, k, none⟩ = some (.bool (X k))) (by kernel_rfl) ?_ (fun hHeld => ?_)
               · (try dsimp only)
                 (first | (go_simp; done) | (go_keep; done))
               refine tq 0 hHeld ?_
               refine tq 1 hHeld ?_
               refine tq 2 hHeld ?_
               refine tq 3 hHeld ?_
               refine tq 4 hHeld ?_
               refine tq 5 hHeld ?_
               refine tq 6 hHeld ?_
               refine tq 7 hHeld ?_
               refine tq 8 hHeld ?_
               refine tq 9 hHeld ?_
               refine tn 10 hHeld ?_
               refine tn 11 hHeld ?_
               refine tn 12 hHeld ?_
               refine tn 13 hHeld ?_
               refine tn 14 hHeld ?_
               refine tq 15 hHeld ?_
               refine wpAnyH_done (by kernel_rfl) ?_ _
               go_wp2_with fail
               go_roundw
               case rel => exact ⟨k + 1, by omega, by go_num, by first | exact hC | exact hC.dr⟩
               case measure => simp [intOf]; omega
           · obtain rfl : k = n := by omega
             go_wp2_with fail
             go_roundw
             case rel => exact ⟨i + 1, by omega, by go_num, by first | exact hL6 | exact hL6.dr, hfc.below hC.bel⟩
             case measure => simp [intOf]; omega
   · obtain rfl : n = i := by omega
     go_wp2_with fail
     go_ret
     exact ⟨rfl, hL.bel⟩
end Go.Proofs.YtalkkjhehndaoaaGreat
