/- Texts of a proof. -/
import Derived.Test.YtalkkjhehndaoaaGreatB13
import Derived.Test.YtalkkjhehndaoaaGreatB12
import Derived.Deep.RegionHeld3
import Derived.Deep.DeepCutAuto
import Derived.LoopNIn
import Derived.LoopIn
import Derived.OwnWalkIn
import Derived.Laws.MakeOwn
import Derived.Test.YtalkkjhehndaoaaGreatB4
import Derived.Test.YtalkkjhehndaoaaGreatB8
import Derived.Test.YtalkkjhehndaoaaGreatB5
import Derived.Test.YtalkkjhehndaoaaGreatB1
import Derived.Deep.QuietTactic
import Derived.BigQuiet
import Derived.OpenShut
import Derived.Test.YtalkkjhehndaoaaGreatB2
import Derived.OrdersHeld
set_option maxHeartbeats 16000000
set_option maxRecDepth 20000
namespace Go.Proofs.YtalkkjhehndaoaaGreat
open Go.RowKit
set_option linter.unusedVariables false
set_option linter.unusedSimpArgs false
theorem HL.some {w : World} {base cb : Nat} {v : Value} {l : List Nat} (h : HL w base cb v l) (hl : 0 < l.length) : ∃ g c : Nat, v = .slice (some ⟨g, 0, none⟩) l.length c ∧ base ≤ g ∧ g < w.heap.size := by
 rcases h.2 with ⟨_, e⟩ | ⟨g, cap, cur, hv, hb, _⟩
 · omega
 · exact ⟨g, cap, hv, hb, (h.lt g (by rw [hv]; rfl)).2⟩
theorem LV.blk {w wr w' : World} {t g cap n : Nat} {xs : List Value} (h : LV w wr t g cap n xs) (hb : Below w.heap.size wr w') (e : w'.heap[g]? = wr.heap[g]?) : LV w w' t g cap n xs := by
 refine ⟨h.bel.trans hb, h.len, h.own.1, ?_⟩
 rcases h.own.2 with ⟨q, _⟩ | ⟨g', cap', cur, hv, hb', hg, rest⟩
 · cases q
 · cases hv
   exact .inr ⟨g, cap, cur, rfl, hb', e.trans hg, rest⟩
theorem LV.sm {w wr w' : World} {B t g cap n : Nat} {xs : List Value} (h : LV w wr t g cap n xs) (hs : Sm B wr w') (hB : w.heap.size ≤ B) : LV w w' t g cap n xs := by
 refine h.blk (hs.below.mono hB) ?_
 rcases h.own.2 with ⟨q, _⟩ | ⟨g', cap', cur, hv, hb', hg, rest⟩
 · cases q
 · cases hv
   exact (hs.cells _ _ hg rfl).trans hg.symm
theorem LV.made (w : World) (t n : Nat) (hn : n ≤ maxLen) : LV w (w.alloc (.cells (madeCells #[.int .i64 0] n) t)) t w.heap.size n n (IV (List.replicate n 0)) := by
 have e : (madeCells #[Value.int .i64 0] n).toList = IV (List.replicate n 0) := by
  unfold madeCells IV
  apply List.ext_getElem?
  intro j
  by_cases h : j < n
  · simp [h, Nat.mod_one]
  · simp [h]
 refine ⟨(Below.refl _ _).alloc (Nat.le_refl _) _, by rw [IV_len, List.length_replicate], by rw [IV_len, List.length_replicate, Nat.mul_one], .inr ⟨w.heap.size, n, _, rfl, Nat.le_refl _, Go.Deep.blk_alloc_new _ _, Nat.le_refl _, hn, by rw [size_madeCells, Nat.mul_one], ?_⟩⟩
 rw [e, Nat.mul_one, List.take_of_length_le (by rw [IV_len, List.length_replicate]; exact Nat.le_refl _)]
structure Nr (w A : World) (g lb n : Nat) (l : List Int) : Prop where
 lv : LV w A 3 g n n (IV l)
 box : A.cell? ⟨lb, 0, none⟩ = some (.slice (some ⟨g, 0, none⟩) n n)
 lo : w.heap.size ≤ lb
 ne : lb ≠ g
section
variable {w A A' : World} {g lb n : Nat} {l : List Int}
theorem Nr.lt (h : Nr w A g lb n l) : lb < A.heap.size := cell_lt (a := ⟨lb, 0, none⟩) h.box
theorem Nr.len (h : Nr w A g lb n l) : l.length = n := by have := h.lv.len; rwa [IV_len] at this
theorem Nr.blk (h : Nr w A g lb n l) (hb : Below w.heap.size A A') (e1 : A'.heap[g]? = A.heap[g]?) (e2 : A'.heap[lb]? = A.heap[lb]?) : Nr w A' g lb n l :=
 ⟨h.lv.blk hb e1, (World.cell?_of_block (w := A) (a := ⟨lb, 0, none⟩) e2).trans h.box, h.lo, h.ne⟩
theorem Nr.below {B : Nat} (h : Nr w A g lb n l) (hb : Below B A A') (hB : w.heap.size ≤ B) (h1 : g < B) (h2 : lb < B) : Nr w A' g lb n l := h.blk (hb.mono hB) (hb.block g h1) (hb.block lb h2)
theorem Nr.on (h : Nr w A g lb n l) (hb : Below A.heap.size A A') : Nr w A' g lb n l := h.below hb h.lv.bel.size h.lv.lt.2 h.lt
theorem Nr.sm {B : Nat} (h : Nr w A g lb n l) (hs : Sm B A A') (hB : w.heap.size ≤ B) : Nr w A' g lb n l := ⟨h.lv.sm hs hB, hs.cell h.box, h.lo, h.ne⟩
theorem Nr.set (h : Nr w A g lb n l) (j : Nat) (x : Int) : Nr w (A.setCell ⟨g, j, none⟩ (.int .i64 x)) g lb n (l.set j x) :=
 ⟨by rw [← IV_set]; exact h.lv.set j _, by rw [cset_far (by simp; exact h.ne)]; exact h.box, h.lo, h.ne⟩
end
theorem list_eq {l m : List Int} {n : Nat} (h1 : l.length = n) (h2 : m.length = n) (h : ∀ j, j < n → ofL l j = ofL m j) : l = m := by
 apply List.ext_getElem (by rw [h1, h2])
 intro j hj hj'
 have := h j (by omega)
 unfold ofL at this
 rw [List.getD_eq_getElem?_getD, List.getD_eq_getElem?_getD, List.getElem?_eq_getElem hj, List.getElem?_eq_getElem hj'] at this
 exact this
theorem numbered_step {l : List Int} {n k r : Nat} {ms : List Nat} {q : Nat} {V : Nat → Int} (hl : l.length = n) (hq : q < ms.length) (hr : ms[q] = r) (hrn : r < n) (h : ∀ j, j < n → ofL l j = if j ∈ ms.take q then (k : Int) else V j) : ∀ j, j < n → ofL (l.set r (k : Int)) j = if j ∈ ms.take (q + 1) then (k : Int) else V j := by
 intro j hj
 rw [ofL_set _ _ _ _ (by omega), List.take_succ_eq_append_getElem hq, hr]
 by_cases e : j = r
 · rw [if_pos e, if_pos (by rw [List.mem_append, List.mem_singleton]; exact .inr e)]
 · rw [if_neg e, h j hj]
   by_cases e2 : j ∈ ms.take q
   · rw [if_pos e2, if_pos (List.mem_append.2 (.inl e2))]
   · rw [if_neg e2, if_neg (by rw [List.mem_append, List.mem_singleton]; exact fun x => x.elim e2 e)]
section
attribute [local go_sem] Oper.semAt_some
theorem numbered_any (cb n : Nat) (U : Nat → Int) (S : Nat → Value) (M : Nat) (w : World) (hC : Cs w cb n (colOf U) S) (hn : n ≤ 12) (hM : (conL (colOf U) n).length = M * 5) (hMk : M ≤ 1000) :
 Calls Tryz.prog 19 #[.pointer (some ⟨cb, 0, none⟩)] w fun e w' => ∃ g : Nat, e = .returned (.slice (some ⟨g, 0, none⟩) n n) ∧ LV w w' 3 g n n (IV (grpL U (ofL (conL (colOf U) n)) M n)) := by
 have hset := cset_map
 have hCt := con_ct (colOf U) hM
 obtain ⟨L, hL⟩ : ∃ L, lab (edg U (ofL (conL (colOf U) n))) M = L := ⟨_, rfl⟩
 have hT : Shut (Tops (fxU U) L) := hL ▸ lab_tops U _ M
 have hE := grpL_eq (U := U) hCt
 rw [hL] at hE
 have hEl := grpL_len U (ofL (conL (colOf U) n)) M n
 have hGr : ∀ w1, Below w.heap.size w w1 → ItG Tryz.prog 24 #[.pointer (some ⟨cb, 0, none⟩)] (ColF cb n (fxU U)) (GrE cb n (fxU U) L) (cntp (fstB (fxU U) L) n) w1 := fun w1 hb => groups_any cb n U S M w1 (hC.below hb) hn hM hMk L (fun j => by rw [← hL]) (fxU U)
 have hCo : ∀ w1, Below w.heap.size w w1 → ColF cb n (fxU U) w1 := fun w1 hb => ⟨_, _, hC.below hb, fun j _ => rfl⟩
 generalize grpL U (ofL (conL (colOf U) n)) M n = R at hE hEl ⊢
 clear hL hM hMk hCt
 have hmk : ∀ w, (Instr.makeSlice 25 (.int .i64 (n : Int)) (.int .i64 (n : Int))).run Tryz.prog w = .ok (.slice (some ⟨w.heap.size, 0, none⟩) n n) (w.alloc (.cells (madeCells #[.int .i64 0] n) 3)) := fun w => by have q := make_rows (P := Tryz.prog) 25 3 (.int .i64 0) 1 8 Tryz.underlying25 (by kernel_rfl) .i64 .i64 n (by omega) (by omega) w; rw [Nat.mul_one] at q; exact q
 obtain ⟨ad, cc, hS0⟩ := (hC.own 0 (by omega)).is
 have hd0 := hC.hd 0 (by omega)
 rw [hS0] at hd0
 have hN0 : Nr w ((w.alloc (.cells (madeCells #[.int .i64 0] n) 3)).alloc (Obj.cells #[.slice (some ⟨w.heap.size, 0, none⟩) n n] 25)) w.heap.size (w.heap.size + 1) n (List.replicate n 0) :=
  ⟨(LV.made w 3 n (by unfold maxLen; omega)).on ((Below.refl _ _).alloc (Nat.le_refl _) _), by go_simp, by omega, by omega⟩
 refine calls_of_wp_marks Tryz.func19 rfl ?_
 simp only [Tryz.ntmps19, List.size_toArray, List.length_cons, List.length_nil, Nat.reduceAdd, Nat.reduceSub, Array.replicate_succ, Array.replicate_zero, List.push_toArray, List.append_toArray, List.nil_append, List.cons_append]
 go_upto_region 3 with fail
 clear hmk hd0 hS0
 generalize ((w.alloc (.cells (madeCells #[.int .i64 0] n) 3)).alloc (Obj.cells #[.slice (some ⟨w.heap.size, 0, none⟩) n n] 25)) = w2 at hN0 ⊢
 generalize hlb : w.heap.size + 1 = lb at hN0 ⊢
 clear hlb
 generalize w.heap.size = g at hN0 ⊢
 go_loopw [17] (fun s wr => ∃ (k : Nat) (l : List Int), k ≤ n ∧ s = .int .i64 (k : Int) ∧ Nr w wr g lb n l ∧ ∀ j, j < k → ofL l j = -1) (fun s _ => n - (intOf s).toNat)
 case atStart => exact ⟨0, _, Nat.zero_le _, rfl, hN0, fun j h => absurd h (Nat.not_lt_zero _)⟩
 case round =>
  clear hN0
  obtain ⟨k, l, hk, rfl, hN, hl⟩ := hrel
  have u0 := hN.box
  by_cases hlt : k < n
  · have hkn : (k : Int) < (n : Int) := by omega
    have uk := hN.lv.ic hlt
    have uf := hN.lv.fro k
    have hN2 := hN.set k (-1)
    have hlen := hN.len
    go_wp2_with fail
    go_roundw
    case rel =>
     refine ⟨k + 1, _, by omega, by go_num, hN2, fun j hj => ?_⟩
     rw [ofL_set _ _ _ _ (by omega)]
     split
     · rfl
     · exact hl j (by omega)
    case measure => simp [intOf]; omega
  · obtain rfl : n = k := by omega
    go_wp2
    have hbr := hN.lv.bel
    have hbz := hbr.size
    have hgl := hN.lv.lt.2
    have hll := hN.lt
    refine wp_range_outG (gf := 24) (bound := #[.pointer (some ⟨cb, 0, none⟩)]) rfl groups_enters (hGr wr hbr) (fun H k args A hE => by obtain ⟨i, v, _, _, _, rfl, _⟩ := hE; rfl)
     (fun H k A => wr.heap.size ≤ H ∧ ∃ l, Nr w A g lb n l ∧ ∀ j, j < n → ofL l j = vnum (fxU U) L k j) ?hI ?hIs ?hcol ?h0 ?round ?done
    case hI => rintro H k A B' ⟨h0, l', h1, h2⟩ hk; exact ⟨h0, l', h1.below hk.below (by omega) (by omega) (by omega), h2⟩
    case hIs => rintro H k A B' ⟨h0, l', h1, h2⟩ hs; exact ⟨h0, l', h1.sm hs hbr.size, h2⟩
    case hcol => rintro H k A ⟨_, l', h1, h2⟩; exact hCo A h1.lv.bel
    case h0 => intro W0 hb hz; exact ⟨by omega, l, hN.on hb, fun j hj => by rw [hl j hj, vnum_0]⟩
    case done =>
     rintro D H W hD ⟨_, l', h1, h2⟩ hK
     have hbx := h1.box
     have hres : l' = R := list_eq h1.len hEl (fun j hj => by rw [h2 j hj, vnum_all hT.out hj, hE j hj])
     subst hres
     go_wp2
     refine marks_ret (B := w.heap.size) (by omega) rfl hK fun W' hS => ⟨.slice (some ⟨g, 0, none⟩) n n, ?_, g, rfl, h1.lv.sm hS (Nat.le_refl _)⟩
     simp [results, Tryz.results19, go_sem, *]
    case round =>
     rintro lr H kk W args hlr1 hlr2 hWz ⟨hHz, l', hN1, hv1⟩ hkk ⟨i, v, hi, hfi, hck, rfl, hHL⟩
     clear hGr hN hl u0 hE hEl hlt hk hkk hCo
     have hLi : L i = i := by unfold fstB at hfi; exact of_decide_eq_true (by simp at hfi; exact decide_eq_true hfi.2)
     have hmm := memL_mem L i n
     have hml := memL_le L i n
     have hm0 : 0 < (memL L i n).length := List.length_pos_of_mem ((hmm i).2 ⟨hi, hLi⟩)
     have hvv : Shut (∀ j, j < n → vnum (fxU U) L (kk + 1) j = if j ∈ memL L i n then (kk : Int) else vnum (fxU U) L kk j) := fun j hj => by
      by_cases e : L j = i
      · rw [if_pos ((hmm j).2 ⟨hj, e⟩)]; exact vnum_in hT.out hfi hck e
      · rw [if_neg (fun q => e ((hmm j).1 q).2)]; exact vnum_out hT.out hfi hck e
     generalize memL L i n = ms at hmm hml hm0 hvv hHL ⊢
     obtain ⟨mg, mc, rfl, hmg, hmg2⟩ := hHL.some hm0
     simp only [List.zip_toArray, List.zip_cons_cons, List.zip_nil_left, List.foldl_toArray, List.foldl_cons, List.foldl_nil, List.setIfInBounds_toArray, List.set_cons_succ, List.set_cons_zero]
     refine wpIn_seq_k fun K1 hK1 => ?_
     refine wpIn_region_plain (by rintro ⟨_, _, h⟩; exact h) (by kernel_rfl) ?_
     go_wp2
     refine wpIn_region_plain (by rintro ⟨_, _, h⟩; exact h) (by kernel_rfl) ?_
     go_wp2
     refine ⟨KeepsFrom.refl _ _, fun W2 hS hKc hr => ?_⟩
     have hN2 := hN1.sm hS hbr.size
     have hHL2 := hHL.sm hS
     have hKc2 : Kc (wr.heap.size + 2) H W W2 := hKc _ _ hlr2
     have hz2 := hS.size
     clear hN1 hHL hKc hS hr hmg2
     refine wpIn_block ?_
     gi_wp2
     gi_loopw [30] (fun s wx => ∃ (q : Nat) (l2 : List Int), q ≤ ms.length ∧ s = .int .i64 (q : Int) ∧ Nr w wx g lb n l2 ∧ (∀ j, j < n → ofL l2 j = if j ∈ ms.take q then (kk : Int) else vnum (fxU U) L kk j) ∧ HL wx H cb (.slice (some ⟨mg, 0, none⟩) ms.length mc) ms ∧ Fr (fun b => b = g) W2 wx) (fun s _ => ms.length - (intOf s).toNat)
     case atStart => exact ⟨0, l', Nat.zero_le _, rfl, hN2, fun j hj => by rw [hv1 j hj, List.take_zero, if_neg (by simp)], hHL2, Fr.refl _ _⟩
     case round =>
      obtain ⟨q, l2, hq, rfl, hN3, hv3, hHL3, hF3⟩ := hrel
      clear hN2 hHL2
      by_cases hq2 : q < ms.length
      · obtain ⟨c0, c1⟩ := hHL3.cells hq2
        obtain ⟨r, hr⟩ : ∃ r, ms[q] = r := ⟨_, rfl⟩
        rw [hr] at c0
        have hrn : r < n := ((hmm r).1 (hr ▸ List.getElem_mem hq2)).1
        have b0 := hN3.box
        have rk := hN3.lv.ic hrn
        have rf := hN3.lv.fro r
        have hg3 := hN3.lv.lt.2
        have hl3 := hN3.lt
        have hqi : (q : Int) < (ms.length : Int) := by omega
        have hri : (r : Int) < (n : Int) := by omega
        gi_wp2
        go_roundw
        case rel =>
         have hE1 : Below (wr.setCell ⟨g, r, none⟩ (.int .i64 (kk : Int))).heap.size (wr.setCell ⟨g, r, none⟩ (.int .i64 (kk : Int))) ((wr.setCell ⟨g, r, none⟩ (.int .i64 (kk : Int))).alloc (Obj.cells #[.int .i64 (r : Int), .pointer (some ⟨cb, 0, none⟩)] 60)) := (Below.refl _ _).alloc (Nat.le_refl _) _
         have hF1 : Fr (fun b => b = g) wr (wr.setCell ⟨g, r, none⟩ (.int .i64 (kk : Int))) := Fr.setCell (X := fun b => b = g) (p := ⟨g, r, none⟩) rfl _
         refine ⟨q + 1, _, by omega, by go_num, (hN3.set r (kk : Int)).on hE1, numbered_step hN3.len hq2 hr hrn hv3, ?_, (hF3.trans hF1).trans (Fr.of_below hE1)⟩
         exact (hHL3.frame hF1 (fun b e q => by simp only [Value.ownBlock, Option.some.injEq] at e; omega)).below hE1
        case measure => simp [intOf]; omega
      · obtain rfl : q = ms.length := by omega
        gi_wp2
        refine ⟨hF3.keeps _, ⟨hHz, l2, hN3, fun j hj => ?_⟩, hKc2.trans (Kc.fr hF3 (fun b e => .inl (by omega)))⟩
        rw [hvv.out j hj, hv3 j hj, List.take_length]
end
end Go.Proofs.YtalkkjhehndaoaaGreat
namespace Go.Proofs.YtalkkjhehndaoaaGreat
open Go.RowKit
set_option linter.unusedVariables false
set_option linter.unusedSimpArgs false
theorem sBodiesOk_any (a : Option Addr) (n c : Nat) (U : Nat → Int) (w : World) (h : Flat w a (n * 12) U) (hn : n ≤ 1048576) :
 Calls Tryz.prog 10 #[.slice a n c] w fun e w' => e = .returned (.bool (bodsB n U)) ∧ Below w.heap.size w w' := by
 have hset := cset_map
 go_enter Tryz.func10, Tryz.ntmps10
 go_wp2
 go_loopw [3] (fun i wr => ∃ k : Nat, k ≤ n ∧ i = .int .i64 (k : Int) ∧ Below w.heap.size w wr ∧ allBB U k = true) (fun i _ => n - (intOf i).toNat)
 case atStart => exact ⟨0, Nat.zero_le _, rfl, Below.refl _ _, rfl⟩
 case round =>
  obtain ⟨k, hk, rfl, hB, hall0⟩ := hrel
  have hall : Shut (allBB U k = true) := hall0
  clear hall0
  by_cases hlt : k < n
  · have hkn : (k : Int) < (n : Int) := by omega
    obtain ⟨b, o, rfl, hbl, hc⟩ := (h.below hB) (by omega)
    have c0 := hc (k * 12) (by omega)
    have c1 := hc (k * 12 + 1) (by omega)
    have c2 := hc (k * 12 + 2) (by omega)
    have c3 := hc (k * 12 + 3) (by omega)
    have c4 := hc (k * 12 + 4) (by omega)
    have c5 := hc (k * 12 + 5) (by omega)
    have c6 := hc (k * 12 + 6) (by omega)
    have c7 := hc (k * 12 + 7) (by omega)
    have c8 := hc (k * 12 + 8) (by omega)
    have c9 := hc (k * 12 + 9) (by omega)
    have c10 := hc (k * 12 + 10) (by omega)
    have c11 := hc (k * 12 + 11) (by omega)
    simp only [← Nat.add_assoc] at c0 c1 c2 c3 c4 c5 c6 c7 c8 c9 c10 c11
    go_upto_region 4 with fail
    cases hi : bodyB (fun j => U (k * 12 + j)) with
    | false =>
     have hno : Shut (stepBB U k = false) := by show stepBB U k = false; rw [stepBB, hi]; rfl
     clear hc
     refine wp_region_held_drew (S := fun w' => w'.cell? ⟨b, o + k * 12, none⟩ = some (.int .i64 (U (k * 12))) ∧ w'.cell? ⟨b, o + k * 12 + 1, none⟩ = some (.int .i64 (U (k * 12 + 1))) ∧ w'.cell? ⟨b, o + k * 12 + 2, none⟩ = some (.int .i64 (U (k * 12 + 2))) ∧ w'.cell? ⟨b, o + k * 12 + 3, none⟩ = some (.int .i64 (U (k * 12 + 3))) ∧ w'.cell? ⟨b, o + k * 12 + 4, none⟩ = some (.int .i64 (U (k * 12 + 4))) ∧ w'.cell? ⟨b, o + k * 12 + 5, none⟩ = some (.int .i64 (U (k * 12 + 5))) ∧ w'.cell? ⟨b, o + k * 12 + 6, none⟩ = some (.int .i64 (U (k * 12 + 6))) ∧ w'.cell? ⟨b, o + k * 12 + 7, none⟩ = some (.int .i64 (U (k * 12 + 7))) ∧ w'.cell? ⟨b, o + k * 12 + 8, none⟩ = some (.int .i64 (U (k * 12 + 8))) ∧ w'.cell? ⟨b, o + k * 12 + 9, none⟩ = some (.int .i64 (U (k * 12 + 9))) ∧ w'.cell? ⟨b, o + k * 12 + 10, none⟩ = some (.int .i64 (U (k * 12 + 10))) ∧ w'.cell? ⟨b, o + k * 12 + 11, none⟩ = some (.int .i64 (U (k * 12 + 11)))) (by kernel_rfl) ?_ (fun hHeld => ?_)
     · (try dsimp only)
       (first | (go_simp; done) | (go_keep; done))
     refine tq 0 hHeld ?_
     refine tq 1 hHeld ?_
     refine tq 2 hHeld ?_
     refine tq 3 hHeld ?_
     (refine tc 4 fun K hK => ?_; go_simp; (go_at_call 22; refine (sBodyOk_q (fun j => U (k * 12 + j)) _ _ (by exact hi)).mono ?_; rintro e w2 ⟨rfl, hb2⟩; obtain ⟨hc2, hf2⟩ := bcell hb2; have hz2 := hb2.size; (try simp only [World.size_drew, World.size_alloc, World.size_setCell] at hc2 hf2 hz2); have hk3 := fun o => hc2 b o (by omega); clear hc2 hf2); (try go_wp2_with fail); refine tr hK (fun hHeld => ?_); clear hK K)
     refine tq 5 hHeld ?_
     refine tq 6 hHeld ?_
     refine tn 7 hHeld ?_
     refine tn 8 hHeld ?_
     refine tn 9 hHeld ?_
     refine tn 10 hHeld ?_
     refine tn 11 hHeld ?_
     refine tn 12 hHeld ?_
     refine tn 13 hHeld ?_
     refine tn 14 hHeld ?_
     refine tn 15 hHeld ?_
     refine tn 16 hHeld ?_
     refine tn 17 hHeld ?_
     refine tn 18 hHeld ?_
     refine tn 19 hHeld ?_
     refine tn 20 hHeld ?_
     refine tn 21 hHeld ?_
     refine tn 22 hHeld ?_
     refine tq 23 hHeld ?_
     refine wpAnyH_done (by kernel_rfl) ?_ _
     go_wp2_with fail
     go_ret
     exact ⟨by rw [bodsB, allBB_no hno.out n hlt, Bool.and_false]; rfl, hB.trans (hb2.ofDr.mono hB.size)⟩
    | true =>
     by_cases hk0 : 0 < k
     · have hd0 : decide (0 < k) = true := decide_eq_true hk0
       obtain ⟨j, hj⟩ : ∃ j, j + 1 = k := ⟨k - 1, by omega⟩
       have hj' : (k : Int) - 1 = (j : Int) := by omega
       have hjn : j < n := by omega
       have hwj : IntKind.i64.wrap (j : Int) = (j : Int) := i64w (by omega)
       have HJ : Shut (j + 1 = k) := hj
       clear hj
       have p0 := hc (j * 12) (by omega)
       clear hc
       by_cases hge : U (j * 12) < U (k * 12)
       · have hdg : decide (U (k * 12) ≤ U (j * 12)) = false := decide_eq_false (by omega)
         have hyes : Shut (stepBB U k = true) := by show stepBB U k = true; rw [stepBB, hi, show k - 1 = j from by have := HJ.out; omega]; simp [hge]
         refine wp_region_held_drew (S := fun w' => w'.cell? ⟨b, o + k * 12, none⟩ = some (.int .i64 (U (k * 12))) ∧ w'.cell? ⟨b, o + k * 12 + 1, none⟩ = some (.int .i64 (U (k * 12 + 1))) ∧ w'.cell? ⟨b, o + k * 12 + 2, none⟩ = some (.int .i64 (U (k * 12 + 2))) ∧ w'.cell? ⟨b, o + k * 12 + 3, none⟩ = some (.int .i64 (U (k * 12 + 3))) ∧ w'.cell? ⟨b, o + k * 12 + 4, none⟩ = some (.int .i64 (U (k * 12 + 4))) ∧ w'.cell? ⟨b, o + k * 12 + 5, none⟩ = some (.int .i64 (U (k * 12 + 5))) ∧ w'.cell? ⟨b, o + k * 12 + 6, none⟩ = some (.int .i64 (U (k * 12 + 6))) ∧ w'.cell? ⟨b, o + k * 12 + 7, none⟩ = some (.int .i64 (U (k * 12 + 7))) ∧ w'.cell? ⟨b, o + k * 12 + 8, none⟩ = some (.int .i64 (U (k * 12 + 8))) ∧ w'.cell? ⟨b, o + k * 12 + 9, none⟩ = some (.int .i64 (U (k * 12 + 9))) ∧ w'.cell? ⟨b, o + k * 12 + 10, none⟩ = some (.int .i64 (U (k * 12 + 10))) ∧ w'.cell? ⟨b, o + k * 12 + 11, none⟩ = some (.int .i64 (U (k * 12 + 11))) ∧ w'.cell? ⟨b, o + j * 12, none⟩ = some (.int .i64 (U (j * 12)))) (by kernel_rfl) ?_ (fun hHeld => ?_)
         · (try dsimp only)
           (first | (go_simp; done) | (go_keep; done))
         refine tq 0 hHeld ?_
         refine tq 1 hHeld ?_
         refine tq 2 hHeld ?_
         refine tq 3 hHeld ?_
         (refine tc 4 fun K hK => ?_; go_simp; (go_at_call 22; refine (sBodyOk_q (fun j => U (k * 12 + j)) _ _ (by exact hi)).mono ?_; rintro e w2 ⟨rfl, hb2⟩; obtain ⟨hc2, hf2⟩ := bcell hb2; have hz2 := hb2.size; (try simp only [World.size_drew, World.size_alloc, World.size_setCell] at hc2 hf2 hz2); have hk3 := fun o => hc2 b o (by omega); clear hc2 hf2); (try go_wp2_with fail); refine tr hK (fun hHeld => ?_); clear hK K)
         refine tq 5 hHeld ?_
         refine tq 6 hHeld ?_
         refine tq 7 hHeld ?_
         refine tq 8 hHeld ?_
         refine tq 9 hHeld ?_
         refine tq 10 hHeld ?_
         refine tq 11 hHeld ?_
         refine tq 12 hHeld ?_
         refine tq 13 hHeld ?_
         refine tq 14 hHeld ?_
         refine tq 15 hHeld ?_
         refine tq 16 hHeld ?_
         refine tq 17 hHeld ?_
         refine tq 18 hHeld ?_
         refine tq 19 hHeld ?_
         refine tq 20 hHeld ?_
         refine tq 21 hHeld ?_
         refine tq 22 hHeld ?_
         refine tq 23 hHeld ?_
         refine wpAnyH_done (by kernel_rfl) ?_ _
         go_wp2_with fail
         go_roundw
         case rel => exact ⟨k + 1, by omega, by go_num, hB.trans (hb2.ofDr.mono hB.size), by rw [allBB, hall.out, hyes.out]; rfl⟩
         case measure => simp [intOf]; omega
       · have hdg : decide (U (k * 12) ≤ U (j * 12)) = true := decide_eq_true (by omega)
         have hno : Shut (stepBB U k = false) := by show stepBB U k = false; rw [stepBB, show k - 1 = j from by have := HJ.out; omega]; have := HJ.out; simp [hge]; omega
         refine wp_region_held_drew (S := fun w' => w'.cell? ⟨b, o + k * 12, none⟩ = some (.int .i64 (U (k * 12))) ∧ w'.cell? ⟨b, o + k * 12 + 1, none⟩ = some (.int .i64 (U (k * 12 + 1))) ∧ w'.cell? ⟨b, o + k * 12 + 2, none⟩ = some (.int .i64 (U (k * 12 + 2))) ∧ w'.cell? ⟨b, o + k * 12 + 3, none⟩ = some (.int .i64 (U (k * 12 + 3))) ∧ w'.cell? ⟨b, o + k * 12 + 4, none⟩ = some (.int .i64 (U (k * 12 + 4))) ∧ w'.cell? ⟨b, o + k * 12 + 5, none⟩ = some (.int .i64 (U (k * 12 + 5))) ∧ w'.cell? ⟨b, o + k * 12 + 6, none⟩ = some (.int .i64 (U (k * 12 + 6))) ∧ w'.cell? ⟨b, o + k * 12 + 7, none⟩ = some (.int .i64 (U (k * 12 + 7))) ∧ w'.cell? ⟨b, o + k * 12 + 8, none⟩ = some (.int .i64 (U (k * 12 + 8))) ∧ w'.cell? ⟨b, o + k * 12 + 9, none⟩ = some (.int .i64 (U (k * 12 + 9))) ∧ w'.cell? ⟨b, o + k * 12 + 10, none⟩ = some (.int .i64 (U (k * 12 + 10))) ∧ w'.cell? ⟨b, o + k * 12 + 11, none⟩ = some (.int .i64 (U (k * 12 + 11))) ∧ w'.cell? ⟨b, o + j * 12, none⟩ = some (.int .i64 (U (j * 12)))) (by kernel_rfl) ?_ (fun hHeld => ?_)
         · (try dsimp only)
           (first | (go_simp; done) | (go_keep; done))
         refine tq 0 hHeld ?_
         refine tq 1 hHeld ?_
         refine tq 2 hHeld ?_
         refine tq 3 hHeld ?_
         (refine tc 4 fun K hK => ?_; go_simp; (go_at_call 22; refine (sBodyOk_q (fun j => U (k * 12 + j)) _ _ (by exact hi)).mono ?_; rintro e w2 ⟨rfl, hb2⟩; obtain ⟨hc2, hf2⟩ := bcell hb2; have hz2 := hb2.size; (try simp only [World.size_drew, World.size_alloc, World.size_setCell] at hc2 hf2 hz2); have hk3 := fun o => hc2 b o (by omega); clear hc2 hf2); (try go_wp2_with fail); refine tr hK (fun hHeld => ?_); clear hK K)
         refine tq 5 hHeld ?_
         refine tq 6 hHeld ?_
         refine tq 7 hHeld ?_
         refine tq 8 hHeld ?_
         refine tq 9 hHeld ?_
         refine tq 10 hHeld ?_
         refine tq 11 hHeld ?_
         refine tq 12 hHeld ?_
         refine tq 13 hHeld ?_
         refine tq 14 hHeld ?_
         refine tq 15 hHeld ?_
         refine tq 16 hHeld ?_
         refine tq 17 hHeld ?_
         refine tq 18 hHeld ?_
         refine tq 19 hHeld ?_
         refine tq 20 hHeld ?_
         refine tq 21 hHeld ?_
         refine tq 22 hHeld ?_
         refine tq 23 hHeld ?_
         refine wpAnyH_done (by kernel_rfl) ?_ _
         go_wp2_with fail
         go_ret
         exact ⟨by rw [bodsB, allBB_no hno.out n hlt, Bool.and_false]; rfl, hB.trans (hb2.ofDr.mono hB.size)⟩
     · have hd0 : decide (0 < k) = false := decide_eq_false hk0
       have HK : Shut (k = 0) := (by omega : k = 0)
       clear hk0 hc
       have hyes : Shut (stepBB U k = true) := by show stepBB U k = true; rw [stepBB, hi, HK.out]; rfl
       refine wp_region_held_drew (S := fun w' => w'.cell? ⟨b, o + k * 12, none⟩ = some (.int .i64 (U (k * 12))) ∧ w'.cell? ⟨b, o + k * 12 + 1, none⟩ = some (.int .i64 (U (k * 12 + 1))) ∧ w'.cell? ⟨b, o + k * 12 + 2, none⟩ = some (.int .i64 (U (k * 12 + 2))) ∧ w'.cell? ⟨b, o + k * 12 + 3, none⟩ = some (.int .i64 (U (k * 12 + 3))) ∧ w'.cell? ⟨b, o + k * 12 + 4, none⟩ = some (.int .i64 (U (k * 12 + 4))) ∧ w'.cell? ⟨b, o + k * 12 + 5, none⟩ = some (.int .i64 (U (k * 12 + 5))) ∧ w'.cell? ⟨b, o + k * 12 + 6, none⟩ = some (.int .i64 (U (k * 12 + 6))) ∧ w'.cell? ⟨b, o + k * 12 + 7, none⟩ = some (.int .i64 (U (k * 12 + 7))) ∧ w'.cell? ⟨b, o + k * 12 + 8, none⟩ = some (.int .i64 (U (k * 12 + 8))) ∧ w'.cell? ⟨b, o + k * 12 + 9, none⟩ = some (.int .i64 (U (k * 12 + 9))) ∧ w'.cell? ⟨b, o + k * 12 + 10, none⟩ = some (.int .i64 (U (k * 12 + 10))) ∧ w'.cell? ⟨b, o + k * 12 + 11, none⟩ = some (.int .i64 (U (k * 12 + 11)))) (by kernel_rfl) ?_ (fun hHeld => ?_)
       · (try dsimp only)
         (first | (go_simp; done) | (go_keep; done))
       refine tq 0 hHeld ?_
       refine tq 1 hHeld ?_
       refine tq 2 hHeld ?_
       refine tq 3 hHeld ?_
       (refine tc 4 fun K hK => ?_; go_simp; (go_at_call 22; refine (sBodyOk_q (fun j => U (k * 12 + j)) _ _ (by exact hi)).mono ?_; rintro e w2 ⟨rfl, hb2⟩; obtain ⟨hc2, hf2⟩ := bcell hb2; have hz2 := hb2.size; (try simp only [World.size_drew, World.size_alloc, World.size_setCell] at hc2 hf2 hz2); have hk3 := fun o => hc2 b o (by omega); clear hc2 hf2); (try go_wp2_with fail); refine tr hK (fun hHeld => ?_); clear hK K)
       refine tq 5 hHeld ?_
       refine tq 6 hHeld ?_
       refine tq 7 hHeld ?_
       refine tq 8 hHeld ?_
       refine tq 9 hHeld ?_
       refine tn 10 hHeld ?_
       refine tn 11 hHeld ?_
       refine tn 12 hHeld ?_
       refine tn 13 hHeld ?_
       refine tn 14 hHeld ?_
       refine tn 15 hHeld ?_
       refine tn 16 hHeld ?_
       refine tn 17 hHeld ?_
       refine tn 18 hHeld ?_
       refine tn 19 hHeld ?_
       refine tn 20 hHeld ?_
       refine tn 21 hHeld ?_
       refine tq 22 hHeld ?_
       refine tq 23 hHeld ?_
       refine wpAnyH_done (by kernel_rfl) ?_ _
       go_wp2_with fail
       go_roundw
       case rel => exact ⟨k + 1, by omega, by go_num, hB.trans (hb2.ofDr.mono hB.size), by rw [allBB, hall.out, hyes.out]; rfl⟩
       case measure => simp [intOf]; omega
  · obtain rfl : k = n := by omega
    by_cases h12 : k ≤ 12
    · have h12' : (k : Int) ≤ 12 := by omega
      go_wp2
      go_ret
      exact ⟨by rw [bodsB, hall.out, decide_eq_true h12]; rfl, hB⟩
    · have h12' : ¬ (k : Int) ≤ 12 := by omega
      go_wp2
      go_ret
      exact ⟨by rw [bodsB, decide_eq_false h12]; rfl, hB⟩
theorem sBodiesOk_q (a : Option Addr) (n c : Nat) (U : Nat → Int) (b : Bool) (w : World) (h : Flat w a (n * 12) U) (hn : n ≤ 1048576) (e : bodsB n U = b) :
 Calls Tryz.prog 10 #[.slice a n c] w fun e w' => e = .returned (.bool b) ∧ Below w.heap.size w w' := by subst e; exact sBodiesOk_any a n c U w h hn
theorem columnsOf_ok (a : Option Addr) (n c : Nat) (U : Nat → Int) (w : World) (h : Flat w a (n * 12) U) (hn : n ≤ 1048576) (e : bodsB n U = true) :
 Calls Tryz.prog 18 #[.slice a n c] w fun e w' => ∃ cb S, e = .returned (.tuple #[.pointer (some ⟨cb, 0, none⟩), .bool true]) ∧ w.heap.size ≤ cb ∧ Cs w' cb n (colOf U) S ∧ Below w.heap.size w w' :=
 (columnsOf_any a n c U w h hn).mono fun e' w' q => by
   obtain ⟨q1, (⟨_, cb, S, q2, q3, q4⟩ | ⟨q2, _⟩)⟩ := q
   · exact ⟨cb, S, q2, q3, q4, q1⟩
   · rw [e] at q2; cases q2
theorem columnsOf_no (a : Option Addr) (n c : Nat) (U : Nat → Int) (w : World) (h : Flat w a (n * 12) U) (hn : n ≤ 1048576) (e : bodsB n U = false) :
 Calls Tryz.prog 18 #[.slice a n c] w fun e w' => e = .returned (.tuple #[.pointer none, .bool false]) ∧ Below w.heap.size w w' :=
 (columnsOf_any a n c U w h hn).mono fun e' w' q => by
   obtain ⟨q1, (⟨q2, _⟩ | ⟨_, q2⟩)⟩ := q
   · rw [e] at q2; cases q2
   · exact ⟨q2, q1⟩
theorem l5Touch_q (k1 g1 h1 x y k2 g2 h2 u v X Y D : Int) (K : Bool) (w : World) (s1 : shB k1 g1 h1 = true) (s2 : shB k2 g2 h2 = true) (p1 : inB 2560000 x y = true) (p2 : inB 2560000 u v = true) (e : toT k1 g1 h1 x y k2 g2 h2 u v = ((X, Y, D), K)) :
 Calls Tryz.prog 37 #[s3 k1 g1 h1, vv x y, s3 k2 g2 h2, vv u v] w fun e w' => e = .returned (.tuple #[s3 X Y D, .bool K]) ∧ Below w.heap.size w w' := by
 have e2 : toT k1 g1 h1 x y k2 g2 h2 u v = tcT k1 g1 h1 x y k2 g2 h2 u v := by unfold toT; rw [if_pos (by simp [*])]
 rw [e2] at e
 obtain ⟨px, py⟩ := inB_of p1
 obtain ⟨pu, pv⟩ := inB_of p2
 rcases shB_kinds s1 with ⟨rfl, rfl, a1, a2⟩ | ⟨rfl, a1, a2, a3, a4⟩ <;> rcases shB_kinds s2 with ⟨rfl, rfl, b1, b2⟩ | ⟨rfl, b1, b2, b3, b4⟩
 · exact sT_rr g1 g2 x y u v X Y D K w ⟨a1, a2⟩ ⟨b1, b2⟩ px py pu pv (by simpa [tcT] using e)
 · exact sT_rb g1 g2 h2 x y u v X Y D K w ⟨a1, a2⟩ ⟨b1, b2⟩ ⟨b3, b4⟩ px py pu pv (by simpa [tcT] using e)
 · exact sT_br g1 h1 g2 x y u v X Y D K w ⟨a1, a2⟩ ⟨a3, a4⟩ ⟨b1, b2⟩ px py pu pv (by simpa [tcT] using e)
 · exact sT_bb g1 h1 g2 h2 x y u v X Y D K w ⟨a1, a2⟩ ⟨a3, a4⟩ ⟨b1, b2⟩ ⟨b3, b4⟩ px py pu pv (by simpa [tcT] using e)
theorem bods_sh {U : Nat → Int} {n k : Nat} (h : bodsB n U = true) (l : k < n) : shB (U (k * 12 + 1)) (U (k * 12 + 2)) (U (k * 12 + 3)) = true ∧ inB 2560000 (U (k * 12 + 4)) (U (k * 12 + 5)) = true := by
 unfold bodsB at h
 rw [Bool.and_eq_true] at h
 have h2 : bodyB (fun j => U (k * 12 + j)) = true := by
  have key : ∀ m, allBB U m = true → k < m → stepBB U k = true := by
   intro m
   induction m with
   | zero => intro _ l; omega
   | succ m ih =>
    intro hm l
    unfold allBB at hm
    rw [Bool.and_eq_true] at hm
    by_cases e : k = m
    · subst e; exact hm.2
    · exact ih hm.1 (by omega)
  have := key n h.2 l
  unfold stepBB at this
  rw [Bool.and_eq_true] at this
  exact this.1
 unfold bodyB at h2
 simp only [Bool.and_eq_true] at h2
 exact ⟨h2.2.1, h2.2.2.1⟩
theorem flat5 (w : World) (p q r s u : Int) (t : TypeId) : Flat (w.alloc (Obj.cells #[.int .i64 p, .int .i64 q, .int .i64 r, .int .i64 s, .int .i64 u] t)) (some ⟨w.heap.size, 0, none⟩) (1 * 5) (ofL [p, q, r, s, u]) := by
 intro _
 refine ⟨w.heap.size, 0, rfl, by simp, fun j hj => ?_⟩
 rw [Nat.zero_add]
 rcases (show j = 0 ∨ j = 1 ∨ j = 2 ∨ j = 3 ∨ j = 4 by omega) with rfl | rfl | rfl | rfl | rfl <;> (simp only [ofL]; go_simp; (try rfl))
theorem l7Contacts_any (a : Option Addr) (n c : Nat) (U : Nat → Int) (w : World) (h : Flat w a (n * 12) U) (hok : bodsB n U = true) (hn : n ≤ 12) :
 Calls Tryz.prog 21 #[.slice a n c] w fun e w' => ∃ a' m c', e = .returned (.slice a' m c') ∧ (conL (colOf U) n).length = m * 5 ∧ OutL w w' 40 5 a' m c' (ofL (conL (colOf U) n)) := by
 have hset := cset_map
 go_enter Tryz.func21, Tryz.ntmps21
 go_wp2
 go_loopw [3, 4, 5, 6, 7] (fun s3 s4 _ _ _ wr => ∃ i a' m c', i ≤ n ∧ s4 = .int .i64 (i : Int) ∧ s3 = .slice a' m c' ∧ LsV w wr 40 5 a' m c' (conOut (colOf U) n i)) (fun _ s4 _ _ _ _ => n - (intOf s4).toNat)
 case atStart => exact ⟨0, _, _, _, Nat.zero_le _, rfl, rfl, LsV.new w _ _⟩
 case round =>
  obtain ⟨i, a', m, c', hi, rfl, rfl, hL⟩ := hrel
  by_cases hlt : i < n
  · have hin : (i : Int) < (n : Int) := by omega
    obtain ⟨b, o, rfl, hbl, hc⟩ := h (by omega)
    obtain ⟨si, qi⟩ := bods_sh hok hlt
    obtain ⟨mm, hm1, hm2⟩ := conOut_len (colOf U) n i
    have hm6 : i * n ≤ 12 * 12 := Nat.mul_le_mul (by omega) hn
    go_wp2
    go_loopw [3, 5, 6, 7] (fun s3 s5 _ _ wr => ∃ k a' m c', i < k ∧ k ≤ n ∧ s5 = .int .i64 (k : Int) ∧ s3 = .slice a' m c' ∧ LsV w wr 40 5 a' m c' (conOut (colOf U) n i ++ conIn (colOf U) i k)) (fun _ s5 _ _ _ => n - (intOf s5).toNat)
    case atStart => exact ⟨i + 1, _, _, _, by omega, by omega, by go_num, rfl, by rw [conIn_ge i (i + 1) (Nat.le_refl _), List.append_nil]; exact hL⟩
    case round =>
     clear hL
     obtain ⟨k, a2, m2, c2, hik, hk, rfl, rfl, hL⟩ := hrel
     by_cases hlk : k < n
     · have hkn : (k : Int) < (n : Int) := by omega
       obtain ⟨sk, qk⟩ := bods_sh hok hlk
       obtain ⟨mk, hm3, hm4⟩ := conIn_len (colOf U) i k
       have hm5 := hL.len
       rw [List.length_append, hm1, hm3] at hm5
       have hc' : ∀ q, q < n * 12 → wr.cell? ⟨b, o + q, none⟩ = some (.int .i64 (U q)) := fun q hq => (hL.bel.cell (p := ⟨b, o + q, none⟩) hbl).trans (hc q hq)
       have hzr := hL.bel.size
       have ci1 := hc' (i * 12 + 1) (by omega)
       have ck1 := hc' (k * 12 + 1) (by omega)
       have ci2 := hc' (i * 12 + 2) (by omega)
       have ck2 := hc' (k * 12 + 2) (by omega)
       have ci3 := hc' (i * 12 + 3) (by omega)
       have ck3 := hc' (k * 12 + 3) (by omega)
       have ci4 := hc' (i * 12 + 4) (by omega)
       have ck4 := hc' (k * 12 + 4) (by omega)
       have ci5 := hc' (i * 12 + 5) (by omega)
       have ck5 := hc' (k * 12 + 5) (by omega)
       have ci8 := hc' (i * 12 + 8) (by omega)
       have ck8 := hc' (k * 12 + 8) (by omega)
       simp only [← Nat.add_assoc] at ci1 ck1 ci2 ck2 ci3 ck3 ci4 ck4 ci5 ck5 ci8 ck8
       clear hc'
       by_cases hfx : U (i * 12 + 8) = 0 ∧ U (k * 12 + 8) = 0
       · obtain ⟨f1, f2⟩ := hfx
         have hno : Shut (conOne (colOf U) i k = []) := conOne_no (by unfold conB colOf; rw [f1, f2]; simp)
         rw [f1] at ci8
         rw [f2] at ck8
         go_wp2
         go_roundw
         case rel => exact ⟨k + 1, _, _, _, by omega, by omega, by go_num, rfl, by rw [conIn, hno.out, List.append_nil]; exact hL⟩
         case measure => simp [intOf]; omega
       · obtain ⟨TX, TY, TD, TJ, hT⟩ : ∃ TX TY TD TJ, tcH (colOf U) i k = ((TX, TY, TD), TJ) := ⟨_, _, _, _, rfl⟩
         have hfx' : Shut (¬ (U (i * 12 + 8) = 0 ∧ U (k * 12 + 8) = 0)) := hfx
         have key : ∀ (g : Prop), (U (i * 12 + 8) ≠ 0 → g) → (U (i * 12 + 8) = 0 → U (k * 12 + 8) ≠ 0 → g) → g := fun g h1 h2 => by
          by_cases e : U (i * 12 + 8) = 0
          · exact h2 e (fun e2 => hfx ⟨e, e2⟩)
          · exact h1 e
         clear hfx
         go_upto_region 8 with fail
         go_cut [36] (fun s wc => s = .bool false ∧ wr = wc)
         case first =>
          refine key _ (fun e => ?_) (fun e1 e2 => ?_)
          · have e' : decide (U (i * 12 + 8) = 0) = false := decide_eq_false e
            have e3 : (U (i * 12 + 8) == 0) = false := by simp [e]
            go_wp2
            go_meet
            exact ⟨by first | rfl | simp [e3], rfl⟩
          · have e' : decide (U (k * 12 + 8) = 0) = false := decide_eq_false e2
            have e3 : (U (k * 12 + 8) == 0) = false := by simp [e2]
            rw [e1] at ci8
            go_wp2
            go_meet
            exact ⟨by first | rfl | simp [e3], rfl⟩
         case rest =>
         obtain ⟨rfl, rfl⟩ := hcut
         clear key ci8 ck8
         go_upto_region 9 with fail
         go_cut [6, 7] (fun s6 s7 wd => ∃ bh, s6 = .pointer (some ⟨bh, 0, none⟩) ∧ s7 = .bool TJ ∧ wd.cell? ⟨bh, 0, none⟩ = some (.int .i64 TX) ∧ wd.cell? ⟨bh, 1, none⟩ = some (.int .i64 TY) ∧ wd.cell? ⟨bh, 2, none⟩ = some (.int .i64 TD) ∧ bh < wd.heap.size ∧ wr.heap.size ≤ bh ∧ Below wr.heap.size wr wd)
         case first =>
          refine wp_region_held_drew (S := fun w' => w'.cell? ⟨b, o + i * 12 + 1, none⟩ = some (.int .i64 (U (i * 12 + 1))) ∧ w'.cell? ⟨b, o + i * 12 + 2, none⟩ = some (.int .i64 (U (i * 12 + 2))) ∧ w'.cell? ⟨b, o + i * 12 + 3, none⟩ = some (.int .i64 (U (i * 12 + 3))) ∧ w'.cell? ⟨b, o + i * 12 + 4, none⟩ = some (.int .i64 (U (i * 12 + 4))) ∧ w'.cell? ⟨b, o + i * 12 + 5, none⟩ = some (.int .i64 (U (i * 12 + 5))) ∧ w'.cell? ⟨b, o + k * 12 + 1, none⟩ = some (.int .i64 (U (k * 12 + 1))) ∧ w'.cell? ⟨b, o + k * 12 + 2, none⟩ = some (.int .i64 (U (k * 12 + 2))) ∧ w'.cell? ⟨b, o + k * 12 + 3, none⟩ = some (.int .i64 (U (k * 12 + 3))) ∧ w'.cell? ⟨b, o + k * 12 + 4, none⟩ = some (.int .i64 (U (k * 12 + 4))) ∧ w'.cell? ⟨b, o + k * 12 + 5, none⟩ = some (.int .i64 (U (k * 12 + 5)))) (by kernel_rfl) ?_ (fun hHeld => ?_)
          · (try dsimp only)
            (first | (go_simp; done) | (go_keep; done))
          refine tq 0 hHeld ?_
          refine tq 1 hHeld ?_
          refine tq 2 hHeld ?_
          refine tq 3 hHeld ?_
          refine tq 4 hHeld ?_
          refine tq 5 hHeld ?_
          refine tq 6 hHeld ?_
          refine tq 7 hHeld ?_
          refine tq 8 hHeld ?_
          refine tq 9 hHeld ?_
          refine tq 10 hHeld ?_
          refine tq 11 hHeld ?_
          refine tq 12 hHeld ?_
          refine tq 13 hHeld ?_
          refine tq 14 hHeld ?_
          refine tq 15 hHeld ?_
          refine tq 16 hHeld ?_
          refine tq 17 hHeld ?_
          refine tq 18 hHeld ?_
          refine tq 19 hHeld ?_
          refine wpAnyH_ready (rs := [20, 24]) (by kernel_rfl) (by simp) ?_
          refine AllReadyH.cons rfl (fun K hK => ?_) (AllReadyH.cons rfl (fun K hK => ?_) AllReadyH.nil)
          · (go_simp; (go_at_call 37; refine (l5Touch_q _ _ _ _ _ _ _ _ _ _ TX TY TD TJ _ si sk qi qk hT).mono ?_; rintro e w3 ⟨rfl, hb3⟩; obtain ⟨hc3, hf3⟩ := bcell hb3; have hz3 := hb3.size; (try simp only [World.size_drew, World.size_alloc, World.size_setCell] at hc3 hf3 hz3); have hk3x0 := fun o => hc3 (b) o (by omega); have hj3x0 := fun o => hf3 (b) o (by omega); have hq3x0 : b < w3.heap.size := (by omega); clear hc3 hf3; have hk3z := fun o => hb3.cell (p := ⟨wr.heap.size, o, none⟩); have hj3z := fun o => hb3.frozen (p := ⟨wr.heap.size, o, none⟩); (try simp only [World.size_drew, World.size_alloc] at hk3z hj3z)); (try go_wp2_with fail); refine tr hK (fun hHeld => ?_); clear hK K)
            refine tq 21 hHeld ?_
            refine tq 22 hHeld ?_
            refine tq 23 hHeld ?_
            refine tc 24 fun K hK => ?_
            (go_simp; refine tr hK (fun hHeld => ?_); clear hK K)
            refine tc 25 fun K hK => ?_
            (go_simp; refine tr hK (fun hHeld => ?_); clear hK K)
            refine tq 26 hHeld ?_
            refine wpAnyH_done (by kernel_rfl) ?_ _
            go_wp2_with fail
            go_meet
            exact ⟨_, rfl, rfl, by go_simp, by go_simp, by go_simp, by first | (simp; omega) | simp | omega, by first | (simp; omega) | simp | omega, bel_a⟩
          · (go_simp; refine tr hK (fun hHeld => ?_); clear hK K)
            refine tc 20 fun K hK => ?_
            (go_simp; (go_at_call 37; refine (l5Touch_q _ _ _ _ _ _ _ _ _ _ TX TY TD TJ _ si sk qi qk hT).mono ?_; rintro e w3 ⟨rfl, hb3⟩; obtain ⟨hc3, hf3⟩ := bcell hb3; have hz3 := hb3.size; (try simp only [World.size_drew, World.size_alloc, World.size_setCell] at hc3 hf3 hz3); have hk3x0 := fun o => hc3 (b) o (by omega); have hj3x0 := fun o => hf3 (b) o (by omega); have hq3x0 : b < w3.heap.size := (by omega); clear hc3 hf3; have hk3z := fun o => hb3.cell (p := ⟨wr.heap.size, o, none⟩); have hj3z := fun o => hb3.frozen (p := ⟨wr.heap.size, o, none⟩); (try simp only [World.size_drew, World.size_alloc] at hk3z hj3z)); (try go_wp2_with fail); refine tr hK (fun hHeld => ?_); clear hK K)
            refine tq 21 hHeld ?_
            refine tq 22 hHeld ?_
            refine tq 23 hHeld ?_
            refine tc 25 fun K hK => ?_
            (go_simp; refine tr hK (fun hHeld => ?_); clear hK K)
            refine tq 26 hHeld ?_
            refine wpAnyH_done (by kernel_rfl) ?_ _
            go_wp2_with fail
            go_meet
            exact ⟨_, rfl, rfl, by go_simp, by go_simp, by go_simp, by first | (simp; omega) | simp | omega, by first | (simp; omega) | simp | omega, bel_a⟩
         case rest =>
         obtain ⟨bh, rfl, rfl, t0, t1, t2, hbh, hbh0, hbd⟩ := hcut
         have hLd := hL.below hbd
         cases TJ with
         | false =>
          have hno : Shut (conOne (colOf U) i k = []) := conOne_no (by unfold conB; rw [hT]; simp)
          go_wp2
          go_roundw
          case rel => exact ⟨k + 1, _, _, _, by omega, by omega, by go_num, rfl, by rw [conIn, hno.out, List.append_nil]; exact hLd⟩
          case measure => simp [intOf]; omega
         | true =>
          have hyes : Shut (conOne (colOf U) i k = [(i : Int), (k : Int), TX, TY, TD]) := conOne_yes (conB_yes hik hfx'.out hT) hT
          go_wp2_with (refine wpList_app rfl _ _ _ rfl w.heap.size 40 5 40 (.agg #[.int .i64 0, .int .i64 0, .int .i64 0, .int .i64 0, .int .i64 0]) Tryz.underlying35 (by kernel_rfl) (by rfl) (by omega) (.slice a2 m2 c2) m2 (ofL (conOut (colOf U) n i ++ conIn (colOf U) i k)) rfl (hLd.below ((Below.refl _ _).alloc (Nat.le_refl _) _)).own _ 1 _ (ofL [(i : Int), (k : Int), TX, TY, TD]) rfl (flat5 _ _ _ _ _ _ _) (by unfold maxLen; omega) (by omega) (by simp only [World.size_alloc]; have := hLd.bel.size; omega) ?_; intro a1 c1 w1 ho1 hg1)
          have hP := (hLd.below ((Below.refl _ _).alloc (Nat.le_refl _) _)).push (x := [(i : Int), (k : Int), TX, TY, TD]) rfl hg1 ho1
          go_roundw
          case rel => exact ⟨k + 1, _, _, _, by omega, by omega, by go_num, rfl, by rw [conIn, hyes.out, ← List.append_assoc]; exact hP⟩
          case measure => simp [intOf]; omega
     · obtain rfl : k = n := by omega
       go_wp2
       go_roundw
       case rel => exact ⟨i + 1, _, _, _, by omega, by go_num, rfl, hL⟩
       case measure => simp [intOf]; omega
  · obtain rfl : i = n := by omega
    go_wp2
    go_ret
    exact ⟨_, _, _, rfl, hL.len, hL.bel, hL.own⟩
theorem IV_num {l : List Int} {n : Nat} (h : l.length = n) : IV l = numL (n * 1) (ofL l) := by
 apply List.ext_getElem?
 intro j
 by_cases e : j < n
 · rw [IV_get (by omega), numL_get (by omega)]
 · rw [List.getElem?_eq_none (by rw [IV_len]; omega), List.getElem?_eq_none (by rw [numL_len]; omega)]
theorem LV.out {w wr : World} {t g cap n : Nat} {l : List Int} (h : LV w wr t g cap n (IV l)) : OutL w wr t 1 (some ⟨g, 0, none⟩) n cap (ofL l) := by
 refine ⟨h.bel, ?_⟩
 have hl := h.len
 rw [IV_len] at hl
 have ho := h.own
 rw [IV_num hl] at ho
 exact ho
theorem OutL.upG {w w0 wr : World} {t k : Nat} {a : Option Addr} {n c : Nat} {R : Nat → Int} (h : OutL w wr t k a n c R) (hb : Below w0.heap.size w0 w) : OutL w0 wr t k a n c R := ⟨hb.trans (h.bel.mono hb.size), h.own.base hb.size⟩
def conN (n : Nat) (U : Nat → Int) : Nat := (conL (colOf U) n).length / 5
theorem conN_eq {n : Nat} (U : Nat → Int) (hn : n ≤ 12) : (conL (colOf U) n).length = conN n U * 5 ∧ conN n U ≤ 144 := by
 obtain ⟨m, h1, h2⟩ := conOut_len (colOf U) n n
 have e : (conL (colOf U) n).length = m * 5 := h1
 have := Nat.mul_le_mul hn hn
 unfold conN
 rw [e]
 omega
def grpU (n : Nat) (U : Nat → Int) : List Int := grpL U (ofL (conL (colOf U) n)) (conN n U) n
def grpO (n : Nat) (U : Nat → Int) : List Int := bif bodsB n U then grpU n U else []
theorem bods_n {n : Nat} {U : Nat → Int} (h : bodsB n U = true) : n ≤ 12 := by unfold bodsB at h; rw [Bool.and_eq_true, decide_eq_true_eq] at h; exact h.1
theorem grpU_eq {n : Nat} {U : Nat → Int} (h12 : n ≤ 12) : ∀ j, j < n → ofL (grpU n U) j = gnum (fxU U) (lab (edg U (ofL (conL (colOf U) n))) (conN n U)) j := grpL_eq (con_ct (colOf U) (conN_eq U h12).1)
theorem grpO_len (n : Nat) (U : Nat → Int) : (grpO n U).length ≤ 12 := by
 unfold grpO
 cases h : bodsB n U with
 | false => exact Nat.zero_le _
 | true => have := bods_n h; show (grpL _ _ _ n).length ≤ 12; rw [grpL_len]; exact this
theorem grpO_y {n : Nat} {U : Nat → Int} (h : bodsB n U = true) : grpO n U = grpU n U := by unfold grpO; rw [h]; rfl
theorem grpO_n {n : Nat} {U : Nat → Int} (h : bodsB n U = false) : grpO n U = [] := by unfold grpO; rw [h]; rfl
theorem groupsI_q (a : Option Addr) (n c : Nat) (U : Nat → Int) (N : Nat) (w : World) (h : Flat w a (n * 12) U) (hn : n ≤ 1048576) (hN : (grpO n U).length = N) :
 Calls Tryz.prog 7 #[.slice a n c] w fun e w' => ∃ a' c', e = .returned (.slice a' N c') ∧ OutL w w' 3 1 a' N c' (ofL (grpO n U)) := by
 have hset := cset_map
 cases hok : bodsB n U with
 | true =>
  have h12 := bods_n hok
  obtain ⟨hM, hMk⟩ := conN_eq U h12
  rw [grpO_y hok] at hN ⊢
  rw [grpU, grpL_len] at hN
  subst hN
  go_enter Tryz.func7, Tryz.ntmps7
  go_wp2_with (first
   | (go_at_call 18; refine (columnsOf_ok a n c U _ h hn hok).mono ?_; rintro e w1 ⟨cb, S, rfl, hcb, hC, hb1⟩)
   | (go_at_call 19; refine (numbered_any cb n U S _ _ hC h12 hM (by omega)).mono ?_; rintro e w2 ⟨g2, rfl, hO2⟩))
  go_ret
  exact ⟨_, _, rfl, hO2.out.upG hb1⟩
 | false =>
  rw [grpO_n hok] at hN ⊢
  obtain rfl : 0 = N := hN
  go_enter Tryz.func7, Tryz.ntmps7
  go_wp2_with (go_at_call 18; refine (columnsOf_no a n c U _ h hn hok).mono ?_; rintro e w1 ⟨rfl, hb1⟩)
  go_ret
  exact ⟨none, 0, rfl, hb1, OwnL.nil _ _ _ _ _⟩
theorem groupsS_q (a : Option Addr) (n c : Nat) (U : Nat → Int) (N : Nat) (w : World) (h : Flat w a (n * 12) U) (hn : n ≤ 1048576) (hN : (grpO n U).length = N) :
 Calls Tryz.prog 9 #[.slice a n c] w fun e w' => ∃ a' c', e = .returned (.slice a' N c') ∧ OutL w w' 3 1 a' N c' (ofL (grpO n U)) := by
 have hset := cset_map
 cases hok : bodsB n U with
 | true =>
  have h12 := bods_n hok
  obtain ⟨hM, hMk⟩ := conN_eq U h12
  have hCt := con_ct (colOf U) hM
  rw [grpO_y hok] at hN ⊢
  rw [grpU, grpL_len] at hN
  subst hN
  unfold grpU
  generalize conN n U = M at hM hMk hCt ⊢
  go_enter Tryz.func9, Tryz.ntmps9
  go_wp2_with (first
   | (go_at_call 10; refine (sBodiesOk_q a n c U true _ h hn hok).mono ?_; rintro e w1 ⟨rfl, hb1⟩)
   | (go_at_call 21; refine (l7Contacts_any a n c U _ (h.below hb1) hok h12).mono ?_; rintro e w2 ⟨a2, m2, c2, rfl, hl2, hO2⟩; obtain rfl : m2 = M := (by omega))
   | (go_at_call 20; refine (l7Groups_any a n c U a2 m2 c2 _ _ ((h.below hb1).below hO2.bel) (by omega) (by omega) hO2.own.flat hCt).mono ?_; rintro e w3 ⟨g3, c3, rfl, hO3⟩))
  go_ret
  exact ⟨_, _, rfl, (hO3.out.upG hO2.bel).upG hb1⟩
 | false =>
  rw [grpO_n hok] at hN ⊢
  obtain rfl : 0 = N := hN
  go_enter Tryz.func9, Tryz.ntmps9
  go_wp2_with (go_at_call 10; refine (sBodiesOk_q a n c U false _ h hn hok).mono ?_; rintro e w1 ⟨rfl, hb1⟩)
  go_ret
  exact ⟨_, _, rfl, hb1.alloc hb1.size _, ((LsV.new w1 _ _).own.base hb1.size)⟩
end Go.Proofs.YtalkkjhehndaoaaGreat
namespace Go.Proofs.YtalkkjhehndaoaaGreat
open Go.RowKit
set_option linter.unusedVariables false
def Rd (w : World) (rb p : Nat) : Prop := ∃ (a : Option Addr) (len cap : Nat), w.cell? ⟨rb, 0, none⟩ = some (.slice a len cap) ∧ w.cell? ⟨rb, 1, none⟩ = some (.int .i64 (p : Int)) ∧ w.frozen? ⟨rb, 1, none⟩ = false ∧ len ≤ 2000 ∧
 (len = 0 ∨ ∃ b off, a = some ⟨b, off, none⟩ ∧ b < rb ∧ ∀ i, i < len → ∃ z : Int, w.cell? ⟨b, off + i, none⟩ = some (.int .u8 z) ∧ 0 ≤ z ∧ z ≤ 255)
theorem Rd.lt {w : World} {rb p : Nat} (h : Rd w rb p) : rb < w.heap.size := by
 obtain ⟨a, len, cap, c0, _⟩ := h; exact cell_lt c0
theorem Rd.below {w w' : World} {rb p : Nat} (h : Rd w rb p) (k : Below w.heap.size w w') : Rd w' rb p := by
 have hl := h.lt
 obtain ⟨a, len, cap, c0, c1, f1, hle, hz⟩ := h
 refine ⟨a, len, cap, by rw [k.cell hl]; exact c0, by rw [k.cell hl]; exact c1, by rw [k.frozen hl]; exact f1, hle, ?_⟩
 rcases hz with hz | ⟨b, off, ha, hb, hz⟩
 · exact .inl hz
 · refine .inr ⟨b, off, ha, hb, fun i hi => ?_⟩
   obtain ⟨z, hz, r⟩ := hz i hi
   exact ⟨z, by rw [k.cell (cell_lt hz)]; exact hz, r⟩
theorem Rd.step {w : World} {rb p : Nat} (h : Rd w rb p) (m : Nat) (q : Nat) : Rd ((w.setCell ⟨rb, 1, none⟩ (.int .i64 (q : Int))).drewN m) rb q := by
 obtain ⟨a, len, cap, c0, c1, f1, hle, hz⟩ := h
 refine ⟨a, len, cap, ?_, ?_, ?_, hle, ?_⟩
 · rw [World.cell?_drewN, cset_other (by simp)]; exact c0
 · rw [World.cell?_drewN, cset_same c1]
 · simpa using f1
 rcases hz with hz | ⟨b, off, ha, hb, hz⟩
 · exact .inl hz
 · refine .inr ⟨b, off, ha, hb, fun i hi => ?_⟩
   obtain ⟨z, hz, r⟩ := hz i hi
   exact ⟨z, by rw [World.cell?_drewN, cset_far (Nat.ne_of_lt hb)]; exact hz, r⟩
theorem pick_any (rb p : Nat) (n : Int) (w : World) (hr : Rd w rb p) (hp : p ≤ 1000000) (h0 : 1 ≤ n) (h1 : n ≤ 4000000000) :
 Calls Tryz.prog 30 #[.pointer (some ⟨rb, 0, none⟩), .int .i64 n] w fun e w' => ∃ v : Int, e = .returned (.int .i64 v) ∧ 0 ≤ v ∧ v < n ∧ Rd w' rb (p + 1) ∧ But rb w w' := by
 have hr' := hr
 obtain ⟨a, len, cap, c0, c1, f1, hle, hz⟩ := hr
 have e0 : (w.setCell ⟨rb, 1, none⟩ (.int .i64 ((p : Int) + 1))).cell? ⟨rb, 0, none⟩ = some (.slice a len cap) := by rw [cset_other (by simp)]; exact c0
 have e1 : (w.setCell ⟨rb, 1, none⟩ (.int .i64 ((p : Int) + 1))).cell? ⟨rb, 1, none⟩ = some (.int .i64 ((p : Int) + 1)) := cset_same c1
 have fin : ∀ m, Rd ((w.setCell ⟨rb, 1, none⟩ (.int .i64 ((p : Int) + 1))).drewN m) rb (p + 1) ∧ But rb w ((w.setCell ⟨rb, 1, none⟩ (.int .i64 ((p : Int) + 1))).drewN m) :=
  fun m => ⟨hr'.step m (p + 1), ((But.refl rb w).setCell rfl _).drewN m⟩
 have FIN : Hid (∀ m, Rd ((w.setCell ⟨rb, 1, none⟩ (.int .i64 ((p : Int) + 1))).drewN m) rb (p + 1) ∧ But rb w ((w.setCell ⟨rb, 1, none⟩ (.int .i64 ((p : Int) + 1))).drewN m)) := fin
 clear fin hr'
 rcases Nat.eq_zero_or_pos len with hl | hl
 · subst hl
   clear hz
   have hd : decide (n < 1) = false := by simp; omega
   go_enter Tryz.func30, Tryz.ntmps30
   go_wp2
   go_ret
   exact ⟨0, rfl, by omega, by omega, FIN.out 0⟩
 · obtain ⟨b, off, rfl, hb, hz⟩ : ∃ b off, a = some ⟨b, off, none⟩ ∧ b < rb ∧ ∀ i, i < len → ∃ z : Int, w.cell? ⟨b, off + i, none⟩ = some (.int .u8 z) ∧ 0 ≤ z ∧ z ≤ 255 := by
    rcases hz with hz | hz
    · omega
    · exact hz
   have hd : decide (n < 1) = false := by simp; omega
   have hln : ((len : Int) == 0) = false := by simp; omega
   by_cases hk : p < len
   · obtain ⟨z, hc, z0, z1⟩ := hz p hk
     clear hz
     have e2 : (w.setCell ⟨rb, 1, none⟩ (.int .i64 ((p : Int) + 1))).cell? ⟨b, off + p, none⟩ = some (.int .u8 z) := by rw [cset_far (Nat.ne_of_lt hb)]; exact hc
     go_enter Tryz.func30, Tryz.ntmps30
     go_wp2
     go_ret
     exact ⟨_, rfl, Int.emod_nonneg _ (by omega), Int.emod_lt_of_pos _ (by omega), FIN.out 0⟩
   · obtain ⟨i, hi, hil⟩ : ∃ i : Nat, (p : Int) % (len : Int) = (i : Int) ∧ i < len := ⟨p % len, by omega, Nat.mod_lt _ hl⟩
     obtain ⟨j, hj, hjl⟩ : ∃ j : Nat, ((p : Int) * 7 + 3) % (len : Int) = (j : Int) ∧ j < len := ⟨(p * 7 + 3) % len, by rw [show (p : Int) * 7 + 3 = ((p * 7 + 3 : Nat) : Int) by omega]; rfl, Nat.mod_lt _ hl⟩
     obtain ⟨d, hd', hdl⟩ : ∃ d : Nat, (p : Int) / (len : Int) = (d : Int) ∧ d ≤ p := ⟨p / len, by omega, Nat.div_le_self _ _⟩
     obtain ⟨z, hc, z0, z1⟩ := hz i hil
     obtain ⟨y, hcy, y0, y1⟩ := hz j hjl
     clear hz
     have e2 : (w.setCell ⟨rb, 1, none⟩ (.int .i64 ((p : Int) + 1))).cell? ⟨b, off + i, none⟩ = some (.int .u8 z) := by rw [cset_far (Nat.ne_of_lt hb)]; exact hc
     have e3 : (w.setCell ⟨rb, 1, none⟩ (.int .i64 ((p : Int) + 1))).cell? ⟨b, off + j, none⟩ = some (.int .u8 y) := by rw [cset_far (Nat.ne_of_lt hb)]; exact hcy
     go_enter Tryz.func30, Tryz.ntmps30
     go_wp2
     go_quiet (fail)
     go_wp2
     go_ret
     exact ⟨_, rfl, Int.tmod_nonneg _ (xor_nonneg (by omega) (by omega) (by omega) (by omega)), Int.tmod_lt_of_pos _ (by omega), FIN.out _⟩
theorem Rd.alloc {w : World} {rb p : Nat} (h : Rd w rb p) (o : Obj) : Rd (w.alloc o) rb p := h.below ((Below.refl _ _).alloc (Nat.le_refl _) o)
theorem one_any (rb p lb len cap : Nat) (xs : List Int) (w : World) (hr : Rd w rb p) (hp : p ≤ 1000000) (hl : xs.length = len) (h0 : 1 ≤ len) (h1 : len ≤ 100) (hb : lb ≠ rb) (hc : ∀ i, i < len → w.cell? ⟨lb, i, none⟩ = some (.int .i64 (xs.getD i 0))) :
 Calls Tryz.prog 53 #[.pointer (some ⟨rb, 0, none⟩), .slice (some ⟨lb, 0, none⟩) len cap] w fun e w' => ∃ v : Int, e = .returned (.int .i64 v) ∧ v ∈ xs ∧ Rd w' rb (p + 1) ∧ But rb w w' := by
 go_enter Tryz.func53, Tryz.ntmps53
 go_wp2_with (go_at_call 30; refine (pick_any rb p _ _ hr hp (by omega) (by omega)).mono ?_; rintro e w1 ⟨v, rfl, v0, v1, hr1, hbut⟩; obtain ⟨j, rfl⟩ := Int.eq_ofNat_of_zero_le v0; have hcj := (hbut.cell (p := ⟨lb, j, none⟩) (cell_lt (hc j (by omega))) hb).trans (hc j (by omega)))
 go_ret
 exact ⟨_, rfl, by rw [List.getElem?_eq_getElem (show j < xs.length by omega)]; simp, hr1, hbut⟩
def AllBd (lo hi : Int) : List Value → Prop
 | [] => True
 | c :: r => (∃ z : Int, c = .int .i64 z ∧ lo ≤ z ∧ z ≤ hi) ∧ AllBd lo hi r
theorem AllBd.get {lo hi : Int} : ∀ {l : List Value}, AllBd lo hi l → ∀ i, i < l.length → ∃ z : Int, l[i]? = some (.int .i64 z) ∧ lo ≤ z ∧ z ≤ hi
 | c :: r, h, 0, _ => by obtain ⟨z, rfl, h1, h2⟩ := h.1; exact ⟨z, rfl, h1, h2⟩
 | c :: r, h, i + 1, hi' => by simpa using AllBd.get h.2 i (by simpa using hi')
theorem AllBd.cons {lo hi z : Int} {r : List Value} (h1 : lo ≤ z) (h2 : z ≤ hi) (h : AllBd lo hi r) : AllBd lo hi (.int .i64 z :: r) := ⟨⟨z, rfl, h1, h2⟩, h⟩
theorem AllBd.nil {lo hi : Int} : AllBd lo hi [] := trivial
theorem one_bd (lo hi : Int) (rb p len cap : Nat) (cs : Array Value) (t : TypeId) (w : World) (hr : Rd w rb p) (hp : p ≤ 1000000) (hcs : AllBd lo hi cs.toList) (hl : cs.size = len) (h0 : 1 ≤ len) (h1 : len ≤ 100) :
 Calls Tryz.prog 53 #[.pointer (some ⟨rb, 0, none⟩), .slice (some ⟨w.heap.size, 0, none⟩) len cap] (w.alloc (.cells cs t)) fun e w' => ∃ v : Int, e = .returned (.int .i64 v) ∧ lo ≤ v ∧ v ≤ hi ∧ Rd w' rb (p + 1) ∧ But rb w w' := by
 have hlt := hr.lt
 have hx : ∀ i, i < len → ∃ z : Int, cs[i]? = some (.int .i64 z) ∧ lo ≤ z ∧ z ≤ hi := fun i hi => by
  have := hcs.get i (by simpa [hl] using hi); simpa using this
 have hcell : ∀ i : Nat, (w.alloc (.cells cs t)).cell? ⟨w.heap.size, i, none⟩ = cs[i]? := fun i => World.cell?_alloc_mark w cs t (0, 0) i
 refine (one_any rb p w.heap.size len cap (cs.toList.map intOf) _ (hr.alloc _) hp (by simpa using hl) h0 h1 (by omega) ?_).mono ?_
 · intro i hi
   obtain ⟨z, hz, _⟩ := hx i hi
   rw [hcell, hz]
   simp [hz, intOf]
 · rintro e w' ⟨v, rfl, hv, hr', hb'⟩
   refine ⟨v, rfl, ?_, ?_, hr', ((But.refl rb w).alloc _).trans hb'⟩
   all_goals
    obtain ⟨c, hc, rfl⟩ := List.mem_map.1 hv
    obtain ⟨i, hi, rfl⟩ := List.getElem_of_mem hc
    obtain ⟨z, hz, a, b⟩ := hcs.get i hi
    rw [List.getElem?_eq_getElem hi] at hz
    injection hz with hz
    rw [hz]; assumption
theorem l1Open_any (a : Option Addr) (len cap : Nat) (w : World) (hcap : len ≤ cap)
 (hz : len = 0 ∨ ∃ b off, a = some ⟨b, off, none⟩ ∧ ∀ i, i < len → ∃ z : Int, w.cell? ⟨b, off + i, none⟩ = some (.int .u8 z) ∧ 0 ≤ z ∧ z ≤ 255) :
 Calls Tryz.prog 17 #[.slice a len cap] w fun e w' => e = .returned (.pointer (some ⟨w.heap.size, 0, none⟩)) ∧ Rd w' w.heap.size 0 ∧ Below w.heap.size w w' := by
 have fin : ∀ (len' cap' : Nat), len' ≤ len → len' ≤ 2000 → Rd (w.alloc (.cells #[.slice a len' cap', .int .i64 0] 67)) w.heap.size 0 := by
  intro len' cap' hl h2
  refine ⟨a, len', cap', ?_, ?_, ?_, h2, ?_⟩
  · go_simp
  · go_simp
  · go_simp
  rcases hz with hz | ⟨b, off, ha, hz⟩
  · exact .inl (by omega)
  · rcases Nat.eq_zero_or_pos len' with h | h
    · exact .inl h
    · obtain ⟨z, hc, _⟩ := hz 0 (by omega)
      have hlt := cell_lt hc
      refine .inr ⟨b, off, ha, hlt, fun i hi => ?_⟩
      obtain ⟨z, hz, r⟩ := hz i (by omega)
      exact ⟨z, by rw [calloc_old (cell_lt hz)]; exact hz, r⟩
 have FIN := fin
 clear fin
 by_cases h : 2000 < len
 · go_enter Tryz.func17, Tryz.ntmps17
   go_wp2
   go_ret
   exact ⟨rfl, FIN _ _ (by omega) (by omega), (Below.refl _ _).alloc (Nat.le_refl _) _⟩
 · go_enter Tryz.func17, Tryz.ntmps17
   go_wp2
   go_ret
   exact ⟨rfl, FIN _ _ (by omega) (by omega), (Below.refl _ _).alloc (Nat.le_refl _) _⟩
def RB (w0 w : World) (rb p : Nat) : Prop := ∃ q, q ≤ p ∧ Rd w rb q ∧ But rb w0 w
theorem RB.mono {w0 w : World} {rb p p' : Nat} (h : RB w0 w rb p) (k : p ≤ p') : RB w0 w rb p' := by
 obtain ⟨q, a, b⟩ := h; exact ⟨q, by omega, b⟩
theorem RB.start {w : World} {rb p : Nat} (h : Rd w rb p) : RB w w rb p := ⟨p, Nat.le_refl _, h, But.refl _ _⟩
theorem RB.alloc {w0 w : World} {rb p : Nat} (h : RB w0 w rb p) (o : Obj) : RB w0 (w.alloc o) rb p := by
 obtain ⟨q, a, b, c⟩ := h; exact ⟨q, a, b.alloc o, c.alloc o⟩
theorem RB.below {w0 w w' : World} {rb p : Nat} (h : RB w0 w rb p) (k : Below w.heap.size w w') : RB w0 w' rb p := by
 obtain ⟨q, a, b, c⟩ := h; exact ⟨q, a, b.below k, c.trans (But.of_below k)⟩
theorem RB.lt {w0 w : World} {rb p : Nat} (h : RB w0 w rb p) : rb < w.heap.size := by
 obtain ⟨q, a, b, c⟩ := h; exact b.lt
theorem RB.old {w0 w : World} {rb p : Nat} (h : RB w0 w rb p) {B : Nat} (hB : B ≤ rb) (hB' : B ≤ w0.heap.size) : Below B w0 w := by
 obtain ⟨q, a, b, c⟩ := h; exact c.below hB hB'
theorem pick_rb (w0 : World) (rb p : Nat) (n : Int) (w : World) (hr : RB w0 w rb p) (hp : p ≤ 999000) (h0 : 1 ≤ n) (h1 : n ≤ 4000000000) :
 Calls Tryz.prog 30 #[.pointer (some ⟨rb, 0, none⟩), .int .i64 n] w fun e w' => ∃ v : Int, e = .returned (.int .i64 v) ∧ 0 ≤ v ∧ v < n ∧ RB w0 w' rb (p + 1) := by
 obtain ⟨q, a, b, c⟩ := hr
 refine (pick_any rb q n w b (by omega) h0 h1).mono ?_
 rintro e w' ⟨v, rfl, v0, v1, hr', hb'⟩
 exact ⟨v, rfl, v0, v1, q + 1, by omega, hr', c.trans hb'⟩
theorem one_rb (lo hi : Int) (w0 : World) (rb p len cap : Nat) (cs : Array Value) (t : TypeId) (w : World) (hr : RB w0 w rb p) (hp : p ≤ 999000) (hcs : AllBd lo hi cs.toList) (hl : cs.size = len) (h0 : 1 ≤ len) (h1 : len ≤ 100) :
 Calls Tryz.prog 53 #[.pointer (some ⟨rb, 0, none⟩), .slice (some ⟨w.heap.size, 0, none⟩) len cap] (w.alloc (.cells cs t)) fun e w' => ∃ v : Int, e = .returned (.int .i64 v) ∧ lo ≤ v ∧ v ≤ hi ∧ RB w0 w' rb (p + 1) := by
 obtain ⟨q, a, b, c⟩ := hr
 refine (one_bd lo hi rb q len cap cs t w b (by omega) hcs hl h0 h1).mono ?_
 rintro e w' ⟨v, rfl, v0, v1, hr', hb'⟩
 exact ⟨v, rfl, v0, v1, q + 1, by omega, hr', c.trans hb'⟩
def Bytes (w : World) (a : Option Addr) (len cap : Nat) : Prop :=
 len ≤ cap ∧ (len = 0 ∨ ∃ b off, a = some ⟨b, off, none⟩ ∧ ∀ i, i < len → ∃ z : Int, w.cell? ⟨b, off + i, none⟩ = some (.int .u8 z) ∧ 0 ≤ z ∧ z ≤ 255)
theorem Bytes.below {w w' : World} {a : Option Addr} {len cap : Nat} (h : Bytes w a len cap) (k : Below w.heap.size w w') : Bytes w' a len cap := by
 refine ⟨h.1, ?_⟩
 rcases h.2 with h | ⟨b, off, ha, hz⟩
 · exact .inl h
 · refine .inr ⟨b, off, ha, fun i hi => ?_⟩
   obtain ⟨z, hz, r⟩ := hz i hi
   exact ⟨z, by rw [k.cell (cell_lt hz)]; exact hz, r⟩
theorem Bytes.nil (w : World) : Bytes w none 0 0 := ⟨Nat.le_refl _, .inl rfl⟩
theorem Bytes.of {w : World} {x : Addr} {len cap : Nat} {zs : List Int} (hl : len ≤ cap) (hz : zs.length = cap) (hcell : ∀ i, i < zs.length → w.cell? (x.add i) = some (.int .u8 (zs.getD i 0))) (hwz : ∀ n ∈ zs, (Lit.int .u8 n).wf = true) : Bytes w (some x) len cap := by
 refine ⟨hl, ?_⟩
 rcases Nat.eq_zero_or_pos len with h | h
 · exact .inl h
 · obtain ⟨b, off, spot⟩ := x
   have hc := hcell 0 (by omega)
   have hspot : spot = none := by simpa [Addr.add] using World.cell?_spot hc
   subst hspot
   refine .inr ⟨b, off, rfl, fun i hi => ⟨zs[i]?.getD 0, ?_, (range_u8 hwz i).1, (range_u8 hwz i).2⟩⟩
   have h := hcell i (by omega)
   by_cases h0 : i = 0
   · subst h0; simpa [Addr.add] using h
   · simpa [Addr.add, h0] using h
theorem l1Open_rb (a : Option Addr) (len cap : Nat) (w : World) (hb : Bytes w a len cap) :
 Calls Tryz.prog 17 #[.slice a len cap] w fun e w' => e = .returned (.pointer (some ⟨w.heap.size, 0, none⟩)) ∧ RB w' w' w.heap.size 0 ∧ Below w.heap.size w w' :=
 (l1Open_any a len cap w hb.1 hb.2).mono fun _ _ ⟨h1, h2, h3⟩ => ⟨h1, RB.start h2, h3⟩
theorem RB.done {w w0 w' : World} {p : Nat} (k : Below w.heap.size w w0) (h : RB w0 w' w.heap.size p) : Below w.heap.size w w' :=
 k.trans (h.old (Nat.le_refl _) k.size)
theorem Rd.setNew {w : World} {rb p : Nat} (h : Rd w rb p) {a : Addr} (ha : rb < a.block) (v : Value) : Rd (w.setCell a v) rb p := by
 obtain ⟨s, len, cap, c0, c1, f1, hle, hz⟩ := h
 refine ⟨s, len, cap, ?_, ?_, ?_, hle, ?_⟩
 · rw [cset_far (Nat.ne_of_lt ha)]; exact c0
 · rw [cset_far (Nat.ne_of_lt ha)]; exact c1
 · rw [fset_far (Nat.ne_of_lt ha)]; exact f1
 rcases hz with hz | ⟨b, off, e, hb, hz⟩
 · exact .inl hz
 · refine .inr ⟨b, off, e, hb, fun i hi => ?_⟩
   obtain ⟨z, hz, r⟩ := hz i hi
   exact ⟨z, by rw [cset_far (by show b ≠ a.block; omega)]; exact hz, r⟩
theorem RB.setNew {w0 w : World} {rb p : Nat} (h : RB w0 w rb p) {a : Addr} (ha : rb < a.block) (h0 : w0.heap.size ≤ a.block) (v : Value) : RB w0 (w.setCell a v) rb p := by
 obtain ⟨q, k, b, c⟩ := h
 exact ⟨q, k, b.setNew ha v, ⟨c.os, c.tape, c.output, by simpa [World.setCell] using c.size, fun k hk hn => (Below.heap_setCell _ _ _ _ (by omega)).trans (c.block k hk hn)⟩⟩
theorem RB.cells {w0 w : World} {rb p : Nat} (h : RB w0 w rb p) : (∀ b o, b < w0.heap.size → b ≠ rb → w.cell? ⟨b, o, none⟩ = w0.cell? ⟨b, o, none⟩) ∧ (∀ b o, b < w0.heap.size → b ≠ rb → w.frozen? ⟨b, o, none⟩ = w0.frozen? ⟨b, o, none⟩) := by
 obtain ⟨q, k, b, c⟩ := h
 exact ⟨fun b o hb hn => c.cell (p := ⟨b, o, none⟩) hb hn, fun b o hb hn => c.frozen (p := ⟨b, o, none⟩) hb hn⟩
end Go.Proofs.YtalkkjhehndaoaaGreat
namespace Go.Proofs.YtalkkjhehndaoaaGreat
open Go.RowKit
set_option linter.unusedVariables false
end Go.Proofs.YtalkkjhehndaoaaGreat
namespace Go.Proofs.YtalkkjhehndaoaaGreat
open Go.RowKit
set_option linter.unusedVariables false
set_option linter.unusedSimpArgs false
def Dn (x : Int) : Prop := -1099511627776 ≤ x ∧ x ≤ 1099511627776
theorem RB.size {w0 w : World} {rb p : Nat} (h : RB w0 w rb p) : w0.heap.size ≤ w.heap.size := by
 have := (h.old (B := 0) (Nat.zero_le _) (Nat.zero_le _)).size
 exact this
def Bn (x : Int) : Prop := -1100000000 ≤ x ∧ x ≤ 1100000000
def RS (w : World) (rb p : Nat) : Prop := ∃ q, q ≤ p ∧ Rd w rb q
theorem RS.of {w0 w : World} {rb p : Nat} (h : RB w0 w rb p) : RS w rb p := by
 obtain ⟨q, a, b, c⟩ := h; exact ⟨q, a, b⟩
theorem RS.rb {w : World} {rb p : Nat} (h : RS w rb p) : RB w w rb p := by
 obtain ⟨q, a, b⟩ := h; exact ⟨q, a, b, But.refl _ _⟩
theorem RS.mono {w : World} {rb p p' : Nat} (h : RS w rb p) (k : p ≤ p') : RS w rb p' := by
 obtain ⟨q, a, b⟩ := h; exact ⟨q, by omega, b⟩
theorem RS.up {w0 w : World} {rb p p' : Nat} (h : RB w0 w rb p) (k : p ≤ p') : RS w rb p' := (RS.of h).mono k
theorem RB.but {w0 w : World} {rb p : Nat} (h : RB w0 w rb p) : But rb w0 w := by
 obtain ⟨q, a, b, c⟩ := h; exact c
theorem RB.mk {w0 w : World} {rb p : Nat} (h : But rb w0 w) (k : RS w rb p) : RB w0 w rb p := by
 obtain ⟨q, a, b⟩ := k; exact ⟨q, a, b, h⟩
theorem But.setNew {rb : Nat} {a w : World} (h : But rb a w) {x : Addr} (hx : a.heap.size ≤ x.block) (u : Value) : But rb a (w.setCell x u) :=
 ⟨h.os, h.tape, h.output, by simpa [World.setCell] using h.size, fun k hk hn => (Below.heap_setCell _ _ _ _ (by omega)).trans (h.block k hk hn)⟩
theorem But.drew {rb : Nat} {a w : World} (h : But rb a w) : But rb a w.drew := ⟨h.os, h.tape, h.output, h.size, h.block⟩
theorem RS.lt {w : World} {rb p : Nat} (h : RS w rb p) : rb < w.heap.size := h.rb.lt
theorem RS.alloc {w : World} {rb p : Nat} (h : RS w rb p) (o : Obj) : RS (w.alloc o) rb p := RS.of (h.rb.alloc o)
theorem RS.setNew {w : World} {rb p : Nat} (h : RS w rb p) {a : Addr} (ha : rb < a.block) (v : Value) : RS (w.setCell a v) rb p := by
 obtain ⟨q, k, b⟩ := h; exact ⟨q, k, b.setNew ha v⟩
theorem RS.drewN {w : World} {rb p : Nat} (h : RS w rb p) (n : Nat) : RS (w.drewN n) rb p := h
theorem RS.drew {w : World} {rb p : Nat} (h : RS w rb p) : RS w.drew rb p := h
theorem RB.drewN {w0 w : World} {rb p : Nat} (h : RB w0 w rb p) (n : Nat) : RB w0 (w.drewN n) rb p := by
 obtain ⟨q, a, b, c⟩ := h; exact ⟨q, a, b, c.drewN n⟩
theorem RB.drew {w0 w : World} {rb p : Nat} (h : RB w0 w rb p) : RB w0 w.drew rb p := by
 obtain ⟨q, a, b, c⟩ := h; exact ⟨q, a, b, c.drewN 1⟩
theorem RB.trans {a b c : World} {rb p p' : Nat} (h : RB a b rb p) (k : RB b c rb p') : RB a c rb p' := by
 obtain ⟨q, _, _, x⟩ := h
 obtain ⟨q', y, z, u⟩ := k
 exact ⟨q', y, z, x.trans u⟩
theorem pick_s (rb p : Nat) (n : Int) (w : World) (hr : RS w rb p) (hp : p ≤ 999000) (h0 : 1 ≤ n) (h1 : n ≤ 4000000000) :
 Calls Tryz.prog 30 #[.pointer (some ⟨rb, 0, none⟩), .int .i64 n] w fun e w' => ∃ v : Int, e = .returned (.int .i64 v) ∧ 0 ≤ v ∧ v < n ∧ RB w w' rb (p + 1) :=
 pick_rb w rb p n w hr.rb hp h0 h1
theorem one_s (lo hi : Int) (rb p len cap : Nat) (cs : Array Value) (t : TypeId) (w : World) (hr : RS w rb p) (hp : p ≤ 999000) (hcs : AllBd lo hi cs.toList) (hl : cs.size = len) (h0 : 1 ≤ len) (h1 : len ≤ 100) :
 Calls Tryz.prog 53 #[.pointer (some ⟨rb, 0, none⟩), .slice (some ⟨w.heap.size, 0, none⟩) len cap] (w.alloc (.cells cs t)) fun e w' => ∃ v : Int, e = .returned (.int .i64 v) ∧ lo ≤ v ∧ v ≤ hi ∧ RB w w' rb (p + 1) :=
 one_rb lo hi w rb p len cap cs t w hr.rb hp hcs hl h0 h1
theorem one_g (lo hi : Int) (rb p lb len cap : Nat) (xs : List Int) (w : World) (hr : RS w rb p) (hp : p ≤ 999000) (hx : ∀ x ∈ xs, lo ≤ x ∧ x ≤ hi) (hl : xs.length = len) (h0 : 1 ≤ len) (h1 : len ≤ 100) (hb : lb ≠ rb) (hc : ∀ i, i < len → w.cell? ⟨lb, i, none⟩ = some (.int .i64 (xs.getD i 0))) :
 Calls Tryz.prog 53 #[.pointer (some ⟨rb, 0, none⟩), .slice (some ⟨lb, 0, none⟩) len cap] w fun e w' => ∃ v : Int, e = .returned (.int .i64 v) ∧ lo ≤ v ∧ v ≤ hi ∧ RB w w' rb (p + 1) := by
 obtain ⟨q, hq, hd⟩ := hr
 refine (one_any rb q lb len cap xs w hd (by omega) hl h0 h1 hb hc).mono ?_
 rintro e w' ⟨v, rfl, hv, hr', hb'⟩
 obtain ⟨v0, v1⟩ := hx v hv
 exact ⟨v, rfl, v0, v1, q + 1, by omega, hr', hb'⟩
def Bm (x : Int) : Prop := -10000 ≤ x ∧ x ≤ 10000
theorem Bm.mk {x : Int} (h : -10000 ≤ x ∧ x ≤ 10000) : Bm x := h
theorem Bm.bn {x : Int} (h : Bm x) : Bn x := by unfold Bm Bn at *; omega
theorem Bn.mk {x : Int} (h : -1100000000 ≤ x ∧ x ≤ 1100000000) : Bn x := h
theorem l11Place_s (rb p : Nat) (w : World) (hs0 : RS w rb p) (hp : p ≤ 997900) :
 Calls Tryz.prog 77 #[.pointer (some ⟨rb, 0, none⟩)] w fun e w' => ∃ x y : Int, e = .returned (vv x y) ∧ (Bm x ∧ Bm y) ∧ RB w w' rb (p + 60) := by
 have hlt := hs0.lt
 have hne : (w.heap.size = rb) = False := eq_false (by omega)
 have hset := cset_map
 go_enter Tryz.func77, Tryz.ntmps77
 go_wp2_with (first
  | (have _ := hr1; go_at_call 30; refine (pick_s rb (p + 20) _ _ (by repeat (first | (with_reducible apply RS.setNew; rotate_left; (first | omega | (simp only [World.size_drew, World.size_alloc, World.size_setCell]; omega))) | with_reducible apply RS.alloc | (with_reducible apply RS.up hr1; omega) | (with_reducible apply RS.mono hs0; omega) | with_reducible apply RS.drew | with_reducible apply RS.drewN)) (by omega) (by omega) (by omega)).mono ?_; rintro e w2 ⟨v2, rfl, va2, vb2, hr2⟩; obtain ⟨hc2, hf2⟩ := RB.cells hr2; have hz2 := RB.size hr2; (try simp only [World.size_drew, World.size_alloc, World.size_setCell] at hc2 hf2 hz2); have hq2x0 : w.heap.size < w2.heap.size := (by omega); have ha2x0 : (w2.heap.size = w.heap.size) = False := eq_false (by omega); have hb2x0 : (w.heap.size = w2.heap.size) = False := eq_false (by omega); have he2x0 : (w.heap.size = rb) = False := eq_false (by omega); have hk2x0 := fun o => hc2 (w.heap.size) o (by omega) (by omega); have hj2x0 := fun o => hf2 (w.heap.size) o (by omega) (by omega))
  | (go_at_call 30; refine (pick_s rb (p + 10) _ _ (by repeat (first | (with_reducible apply RS.setNew; rotate_left; (first | omega | (simp only [World.size_drew, World.size_alloc, World.size_setCell]; omega))) | with_reducible apply RS.alloc | (with_reducible apply RS.mono hs0; omega) | with_reducible apply RS.drew | with_reducible apply RS.drewN)) (by omega) (by omega) (by omega)).mono ?_; rintro e w1 ⟨v1, rfl, va1, vb1, hr1⟩; obtain ⟨hc1, hf1⟩ := RB.cells hr1; have hz1 := RB.size hr1; (try simp only [World.size_drew, World.size_alloc, World.size_setCell] at hc1 hf1 hz1); have hq1x0 : w.heap.size < w1.heap.size := (by omega); have ha1x0 : (w1.heap.size = w.heap.size) = False := eq_false (by omega); have hb1x0 : (w.heap.size = w1.heap.size) = False := eq_false (by omega); have he1x0 : (w.heap.size = rb) = False := eq_false (by omega); have hk1x0 := fun o => hc1 (w.heap.size) o (by omega) (by omega); have hj1x0 := fun o => hf1 (w.heap.size) o (by omega) (by omega)))
 exact bodyPost_ret (v := vv (v1 * 8 - 1024) (v2 * 8 - 1024)) (by simp [results, Tryz.results77, go_sem, *]) rfl ⟨_, _, rfl, ⟨Bm.mk ⟨by omega, by omega⟩, Bm.mk ⟨by omega, by omega⟩⟩, RB.mk (by repeat (first | (with_reducible apply But.setNew; rotate_left; (first | omega | (simp only [World.size_drew, World.size_alloc, World.size_setCell]; omega))) | with_reducible apply But.alloc | with_reducible apply But.trans (k := RB.but hr2) | with_reducible apply But.trans (k := RB.but hr1) | with_reducible apply But.refl | with_reducible apply But.drewN | with_reducible apply But.drew)) (by repeat (first | (with_reducible apply RS.setNew; rotate_left; (first | omega | (simp only [World.size_drew, World.size_alloc, World.size_setCell]; omega))) | with_reducible apply RS.alloc | (with_reducible apply RS.up hr2; omega) | (with_reducible apply RS.up hr1; omega) | (with_reducible apply RS.mono hs0; omega) | with_reducible apply RS.drew | with_reducible apply RS.drewN))⟩
theorem l11Shape_s (rb p : Nat) (w : World) (hs0 : RS w rb p) (hp : p ≤ 997900) :
 Calls Tryz.prog 76 #[.pointer (some ⟨rb, 0, none⟩)] w fun e w' => ∃ k g h : Int, e = .returned (s3 k g h) ∧ (Bn k ∧ Bn g ∧ Bn h) ∧ RB w w' rb (p + 60) := by
 have hlt := hs0.lt
 have hne : (w.heap.size = rb) = False := eq_false (by omega)
 have hset := cset_map
 go_enter Tryz.func76, Tryz.ntmps76
 go_wp2_with (first
  | (have _ := hr3; go_at_call 30; refine (pick_s rb (p + 40) _ _ (by repeat (first | (with_reducible apply RS.setNew; rotate_left; (first | omega | (simp only [World.size_drew, World.size_alloc, World.size_setCell]; omega))) | with_reducible apply RS.alloc | (with_reducible apply RS.up hr3; omega) | (with_reducible apply RS.mono hs0; omega) | with_reducible apply RS.drew | with_reducible apply RS.drewN)) (by omega) (by omega) (by omega)).mono ?_; rintro e w4 ⟨v4, rfl, va4, vb4, hr4⟩; obtain ⟨hc4, hf4⟩ := RB.cells hr4; have hz4 := RB.size hr4; (try simp only [World.size_drew, World.size_alloc, World.size_setCell] at hc4 hf4 hz4); have hq4x0 : w.heap.size < w4.heap.size := (by omega); have ha4x0 : (w4.heap.size = w.heap.size) = False := eq_false (by omega); have hb4x0 : (w.heap.size = w4.heap.size) = False := eq_false (by omega); have he4x0 : (w.heap.size = rb) = False := eq_false (by omega); have hk4x0 := fun o => hc4 (w.heap.size) o (by omega) (by omega); have hj4x0 := fun o => hf4 (w.heap.size) o (by omega) (by omega))
  | (have _ := hr2; go_at_call 30; refine (pick_s rb (p + 30) _ _ (by repeat (first | (with_reducible apply RS.setNew; rotate_left; (first | omega | (simp only [World.size_drew, World.size_alloc, World.size_setCell]; omega))) | with_reducible apply RS.alloc | (with_reducible apply RS.up hr2; omega) | (with_reducible apply RS.mono hs0; omega) | with_reducible apply RS.drew | with_reducible apply RS.drewN)) (by omega) (by omega) (by omega)).mono ?_; rintro e w3 ⟨v3, rfl, va3, vb3, hr3⟩; obtain ⟨hc3, hf3⟩ := RB.cells hr3; have hz3 := RB.size hr3; (try simp only [World.size_drew, World.size_alloc, World.size_setCell] at hc3 hf3 hz3); have hq3x0 : w.heap.size < w3.heap.size := (by omega); have ha3x0 : (w3.heap.size = w.heap.size) = False := eq_false (by omega); have hb3x0 : (w.heap.size = w3.heap.size) = False := eq_false (by omega); have he3x0 : (w.heap.size = rb) = False := eq_false (by omega); have hk3x0 := fun o => hc3 (w.heap.size) o (by omega) (by omega); have hj3x0 := fun o => hf3 (w.heap.size) o (by omega) (by omega))
  | (go_at_call 30; refine (pick_s rb (p + 10) _ _ (by repeat (first | (with_reducible apply RS.setNew; rotate_left; (first | omega | (simp only [World.size_drew, World.size_alloc, World.size_setCell]; omega))) | with_reducible apply RS.alloc | (with_reducible apply RS.mono hs0; omega) | with_reducible apply RS.drew | with_reducible apply RS.drewN)) (by omega) (by omega) (by omega)).mono ?_; rintro e w1 ⟨v1, rfl, va1, vb1, hr1⟩; obtain ⟨hc1, hf1⟩ := RB.cells hr1; have hz1 := RB.size hr1; (try simp only [World.size_drew, World.size_alloc, World.size_setCell] at hc1 hf1 hz1); have hq1x0 : w.heap.size < w1.heap.size := (by omega); have ha1x0 : (w1.heap.size = w.heap.size) = False := eq_false (by omega); have hb1x0 : (w.heap.size = w1.heap.size) = False := eq_false (by omega); have he1x0 : (w.heap.size = rb) = False := eq_false (by omega); have hk1x0 := fun o => hc1 (w.heap.size) o (by omega) (by omega); have hj1x0 := fun o => hf1 (w.heap.size) o (by omega) (by omega))
  | (have _ := hr4; go_at_call 53; refine (one_s (1) 1000 rb (p + 50) _ _ _ _ _ (by repeat (first | (with_reducible apply RS.setNew; rotate_left; (first | omega | (simp only [World.size_drew, World.size_alloc, World.size_setCell]; omega))) | with_reducible apply RS.alloc | (with_reducible apply RS.up hr4; omega) | (with_reducible apply RS.mono hs0; omega) | with_reducible apply RS.drew | with_reducible apply RS.drewN)) (by omega) (by repeat (first | exact AllBd.nil | refine AllBd.cons (by omega) (by omega) ?_)) (by rfl) (by omega) (by omega)).mono ?_; rintro e w5 ⟨v5, rfl, va5, vb5, hr5⟩; obtain ⟨hc5, hf5⟩ := RB.cells hr5; have hz5 := RB.size hr5; (try simp only [World.size_drew, World.size_alloc, World.size_setCell] at hc5 hf5 hz5); have hq5x0 : w.heap.size < w5.heap.size := (by omega); have ha5x0 : (w5.heap.size = w.heap.size) = False := eq_false (by omega); have hb5x0 : (w.heap.size = w5.heap.size) = False := eq_false (by omega); have he5x0 : (w.heap.size = rb) = False := eq_false (by omega); have hk5x0 := fun o => hc5 (w.heap.size) o (by omega) (by omega); have hj5x0 := fun o => hf5 (w.heap.size) o (by omega) (by omega))
  | (have _ := hr1; go_at_call 53; refine (one_s (1) 1000 rb (p + 20) _ _ _ _ _ (by repeat (first | (with_reducible apply RS.setNew; rotate_left; (first | omega | (simp only [World.size_drew, World.size_alloc, World.size_setCell]; omega))) | with_reducible apply RS.alloc | (with_reducible apply RS.up hr1; omega) | (with_reducible apply RS.mono hs0; omega) | with_reducible apply RS.drew | with_reducible apply RS.drewN)) (by omega) (by repeat (first | exact AllBd.nil | refine AllBd.cons (by omega) (by omega) ?_)) (by rfl) (by omega) (by omega)).mono ?_; rintro e w2 ⟨v2, rfl, va2, vb2, hr2⟩; obtain ⟨hc2, hf2⟩ := RB.cells hr2; have hz2 := RB.size hr2; (try simp only [World.size_drew, World.size_alloc, World.size_setCell] at hc2 hf2 hz2); have hq2x0 : w.heap.size < w2.heap.size := (by omega); have ha2x0 : (w2.heap.size = w.heap.size) = False := eq_false (by omega); have hb2x0 : (w.heap.size = w2.heap.size) = False := eq_false (by omega); have he2x0 : (w.heap.size = rb) = False := eq_false (by omega); have hk2x0 := fun o => hc2 (w.heap.size) o (by omega) (by omega); have hj2x0 := fun o => hf2 (w.heap.size) o (by omega) (by omega)))
 · exact bodyPost_ret (v := s3 1 v2 0) (by simp [results, Tryz.results76, go_sem, *]) rfl ⟨_, _, _, rfl, ⟨Bn.mk ⟨by omega, by omega⟩, Bn.mk ⟨by omega, by omega⟩, Bn.mk ⟨by omega, by omega⟩⟩, RB.mk (by repeat (first | (with_reducible apply But.setNew; rotate_left; (first | omega | (simp only [World.size_drew, World.size_alloc, World.size_setCell]; omega))) | with_reducible apply But.alloc | with_reducible apply But.trans (k := RB.but hr3) | with_reducible apply But.trans (k := RB.but hr2) | with_reducible apply But.trans (k := RB.but hr1) | with_reducible apply But.refl | with_reducible apply But.drewN | with_reducible apply But.drew)) (by repeat (first | (with_reducible apply RS.setNew; rotate_left; (first | omega | (simp only [World.size_drew, World.size_alloc, World.size_setCell]; omega))) | with_reducible apply RS.alloc | (with_reducible apply RS.up hr3; omega) | (with_reducible apply RS.up hr2; omega) | (with_reducible apply RS.up hr1; omega) | (with_reducible apply RS.mono hs0; omega) | with_reducible apply RS.drew | with_reducible apply RS.drewN))⟩
 · exact bodyPost_ret (v := s3 2 v2 v5) (by simp [results, Tryz.results76, go_sem, *]) rfl ⟨_, _, _, rfl, ⟨Bn.mk ⟨by omega, by omega⟩, Bn.mk ⟨by omega, by omega⟩, Bn.mk ⟨by omega, by omega⟩⟩, RB.mk (by repeat (first | (with_reducible apply But.setNew; rotate_left; (first | omega | (simp only [World.size_drew, World.size_alloc, World.size_setCell]; omega))) | with_reducible apply But.alloc | with_reducible apply But.trans (k := RB.but hr5) | with_reducible apply But.trans (k := RB.but hr4) | with_reducible apply But.trans (k := RB.but hr3) | with_reducible apply But.trans (k := RB.but hr2) | with_reducible apply But.trans (k := RB.but hr1) | with_reducible apply But.refl | with_reducible apply But.drewN | with_reducible apply But.drew)) (by repeat (first | (with_reducible apply RS.setNew; rotate_left; (first | omega | (simp only [World.size_drew, World.size_alloc, World.size_setCell]; omega))) | with_reducible apply RS.alloc | (with_reducible apply RS.up hr5; omega) | (with_reducible apply RS.up hr4; omega) | (with_reducible apply RS.up hr3; omega) | (with_reducible apply RS.up hr2; omega) | (with_reducible apply RS.up hr1; omega) | (with_reducible apply RS.mono hs0; omega) | with_reducible apply RS.drew | with_reducible apply RS.drewN))⟩
def Al (w0 w : World) (ab n : Nat) (V : Nat → Int) : Prop := w0.heap.size ≤ ab ∧ ab < w.heap.size ∧ (∀ i, i < n → w.cell? ⟨ab, i, none⟩ = some (.int .i64 (V i))) ∧ ∀ i, i < n → w.frozen? ⟨ab, i, none⟩ = false
theorem Al.up {rb : Nat} {w0 w w' : World} {ab n : Nat} {V : Nat → Int} (h : Al w0 w ab n V) (hrb : rb < w0.heap.size) (k : But rb w w') : Al w0 w' ab n V := by
 obtain ⟨h1, h2, h3, h4⟩ := h
 exact ⟨h1, Nat.lt_of_lt_of_le h2 k.size, fun i hi => (k.cell (p := ⟨ab, i, none⟩) h2 (by simp only [ne_eq]; omega)).trans (h3 i hi), fun i hi => (k.frozen (p := ⟨ab, i, none⟩) h2 (by simp only [ne_eq]; omega)).trans (h4 i hi)⟩
theorem Al.set {w0 w : World} {ab n : Nat} {V : Nat → Int} (h : Al w0 w ab n V) (k : Nat) (hk : k < n) (v : Int) : Al w0 (w.setCell ⟨ab, k, none⟩ (.int .i64 v)) ab n (fun j => if j = k then v else V j) := by
 obtain ⟨h1, h2, h3, h4⟩ := h
 refine ⟨h1, by simpa [World.setCell] using h2, fun i hi => ?_, fun i hi => ?_⟩
 · by_cases e : i = k
   · subst e; rw [cset_map, h3 i hi]; simp
   · rw [cset_other (by intro q; injection q with q1 q2; exact e q2.symm), h3 i hi]; simp [e]
 · rw [World.frozen?_setCell]; exact h4 i hi
theorem but_alloc (rb : Nat) (w : World) (o : Obj) : But rb w (w.alloc o) := (But.refl rb w).alloc o
theorem Al.new {w0 w : World} {cs : Array Value} {t : TypeId} {n : Nat} {V : Nat → Int} (hsz : w0.heap.size ≤ w.heap.size) (hc : ∀ i, i < n → cs[i]? = some (.int .i64 (V i))) : Al w0 (w.alloc (.cells cs t)) w.heap.size n V :=
 ⟨hsz, by simp, fun i hi => by rw [World.cell?_alloc_new]; exact hc i hi, fun i hi => by go_simp⟩
theorem Al.congr {w0 w : World} {ab n : Nat} {V U : Nat → Int} (h : Al w0 w ab n V) (k : ∀ i, i < n → V i = U i) : Al w0 w ab n U :=
 ⟨h.1, h.2.1, fun i hi => by rw [h.2.2.1 i hi, k i hi], h.2.2.2⟩
end Go.Proofs.YtalkkjhehndaoaaGreat
namespace Go.Proofs.YtalkkjhehndaoaaGreat
open Go.RowKit
set_option linter.unusedVariables false
set_option linter.unusedSimpArgs false
section
variable {P : Program} {ops : Array Oper} {Q : Exit → Act → World → Prop} {md : Region.Mode}
end
def Li (w0 w : World) (lb len : Nat) (xs : List Int) : Prop := w0.heap.size ≤ lb ∧ lb < w.heap.size ∧ ∀ i, i < len → w.cell? ⟨lb, i, none⟩ = some (.int .i64 (xs.getD i 0))
theorem Li.up {rb : Nat} {w0 w w' : World} {lb len : Nat} {xs : List Int} (h : Li w0 w lb len xs) (hrb : rb < w0.heap.size) (k : But rb w w') : Li w0 w' lb len xs := by
 obtain ⟨h1, h2, h3⟩ := h
 exact ⟨h1, Nat.lt_of_lt_of_le h2 k.size, fun i hi => (k.cell (p := ⟨lb, i, none⟩) h2 (by simp only [ne_eq]; omega)).trans (h3 i hi)⟩
abbrev VI (lo hi : Int) (x : Value) : Prop := ∃ n, x = .int .i64 n ∧ lo ≤ n ∧ n ≤ hi
abbrev VP (rb : Nat) (x : Value) : Prop := x = .pointer (some ⟨rb, 0, none⟩)
abbrev VN (n : Int) (x : Value) : Prop := x = .int .i64 n
abbrev VV (lo hi : Int) (x : Value) : Prop := ∃ a b, x = vv a b ∧ (lo ≤ a ∧ a ≤ hi) ∧ lo ≤ b ∧ b ≤ hi
abbrev VS (lo hi : Int) (x : Value) : Prop := ∃ a b c, x = s3 a b c ∧ (lo ≤ a ∧ a ≤ hi) ∧ (lo ≤ b ∧ b ≤ hi) ∧ lo ≤ c ∧ c ≤ hi
def VL (w0 w : World) (c : Bool) (len : Nat) (xs : List Int) (x : Value) : Prop := ∃ lb, x = .slice (some ⟨lb, 0, none⟩) len len ∧ (c = false → Li w0 w lb len xs)
def VA (w0 w : World) (c : Bool) (n : Nat) (V : Nat → Int) (x : Value) : Prop := ∃ ab, x = .pointer (some ⟨ab, 0, none⟩) ∧ (c = false → Al w0 w ab n V)
theorem VL.up {rb : Nat} {w0 w w' : World} {c : Bool} {len : Nat} {xs : List Int} {x : Value} (h : VL w0 w c len xs x) (hrb : rb < w0.heap.size) (k : But rb w w') : VL w0 w' c len xs x := by
 obtain ⟨lb, e, h⟩ := h; exact ⟨lb, e, fun q => (h q).up hrb k⟩
theorem VA.up {rb : Nat} {w0 w w' : World} {c : Bool} {n : Nat} {V : Nat → Int} {x : Value} (h : VA w0 w c n V x) (hrb : rb < w0.heap.size) (k : But rb w w') : VA w0 w' c n V x := by
 obtain ⟨lb, e, h⟩ := h; exact ⟨lb, e, fun q => (h q).up hrb k⟩
theorem Li.new {w0 w : World} {cs : Array Value} {t : TypeId} {len : Nat} {xs : List Int} (hsz : w0.heap.size ≤ w.heap.size) (hc : ∀ i, i < len → cs[i]? = some (.int .i64 (xs.getD i 0))) : Li w0 (w.alloc (.cells cs t)) w.heap.size len xs :=
 ⟨hsz, by simp, fun i hi => by rw [World.cell?_alloc_new]; exact hc i hi⟩
end Go.Proofs.YtalkkjhehndaoaaGreat
