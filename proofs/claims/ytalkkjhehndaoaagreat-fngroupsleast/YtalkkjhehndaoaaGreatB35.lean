/- Texts of a proof. -/
import Derived.Test.YtalkkjhehndaoaaGreatB34
import Derived.Test.YtalkkjhehndaoaaGreatB32
import Derived.Deep.RegionHeld3
import Derived.Deep.DeepCutAuto
import Derived.LoopNIn
import Derived.LoopIn
import Derived.OwnWalkIn
import Derived.Laws.MakeOwn
import Derived.Test.YtalkkjhehndaoaaGreatCsOf
import Derived.Test.YtalkkjhehndaoaaGreatB21
set_option maxHeartbeats 16000000
set_option maxRecDepth 20000
namespace Go.Proofs.YtalkkjhehndaoaaGreat
open Go.RowKit
set_option linter.unusedVariables false
set_option linter.unusedSimpArgs false
theorem HL.some {w : World} {base cb : Nat} {v : Value} {l : List Nat} (h : HL w base cb v l) (hl : 0 < l.length) : ∃ g c : Nat, v = .slice (some ⟨g, 0, none⟩) l.length c ∧ base ≤ g ∧ g < w.heap.size := by
 rcases h.2 with ⟨_, e⟩ | ⟨g, cap, cur, hv, hb, _⟩
 · omega
 · exact ⟨g, cap, hv, hb, (h.lt g (by rw [hv]; rfl)).2⟩
theorem LV.blk {w wr w' : World} {t g cap n : Nat} {xs : List Value} (h : LV w wr t g cap n xs) (hb : Below w.heap.size wr w') (e : w'.heap[g]? = wr.heap[g]?) : LV w w' t g cap n xs := by
 refine ⟨h.bel.trans hb, h.len, h.own.1, ?_⟩
 rcases h.own.2 with ⟨q, _⟩ | ⟨g', cap', cur, hv, hb', hg, rest⟩
 · cases q
 · cases hv
   exact .inr ⟨g, cap, cur, rfl, hb', e.trans hg, rest⟩
theorem LV.sm {w wr w' : World} {B t g cap n : Nat} {xs : List Value} (h : LV w wr t g cap n xs) (hs : Sm B wr w') (hB : w.heap.size ≤ B) : LV w w' t g cap n xs := by
 refine h.blk (hs.below.mono hB) ?_
 rcases h.own.2 with ⟨q, _⟩ | ⟨g', cap', cur, hv, hb', hg, rest⟩
 · cases q
 · cases hv
   exact (hs.cells _ _ hg rfl).trans hg.symm
theorem LV.made (w : World) (t n : Nat) (hn : n ≤ maxLen) : LV w (w.alloc (.cells (madeCells #[.int .i64 0] n) t)) t w.heap.size n n (IV (List.replicate n 0)) := by
 have e : (madeCells #[Value.int .i64 0] n).toList = IV (List.replicate n 0) := by
  unfold madeCells IV
  apply List.ext_getElem?
  intro j
  by_cases h : j < n
  · simp [h, Nat.mod_one]
  · simp [h]
 refine ⟨(Below.refl _ _).alloc (Nat.le_refl _) _, by rw [IV_len, List.length_replicate], by rw [IV_len, List.length_replicate, Nat.mul_one], .inr ⟨w.heap.size, n, _, rfl, Nat.le_refl _, Go.Deep.blk_alloc_new _ _, Nat.le_refl _, hn, by rw [size_madeCells, Nat.mul_one], ?_⟩⟩
 rw [e, Nat.mul_one, List.take_of_length_le (by rw [IV_len, List.length_replicate]; exact Nat.le_refl _)]
structure Nr (w A : World) (g lb n : Nat) (l : List Int) : Prop where
 lv : LV w A 3 g n n (IV l)
 box : A.cell? ⟨lb, 0, none⟩ = some (.slice (some ⟨g, 0, none⟩) n n)
 lo : w.heap.size ≤ lb
 ne : lb ≠ g
section
variable {w A A' : World} {g lb n : Nat} {l : List Int}
theorem Nr.lt (h : Nr w A g lb n l) : lb < A.heap.size := cell_lt (a := ⟨lb, 0, none⟩) h.box
theorem Nr.len (h : Nr w A g lb n l) : l.length = n := by have := h.lv.len; rwa [IV_len] at this
theorem Nr.blk (h : Nr w A g lb n l) (hb : Below w.heap.size A A') (e1 : A'.heap[g]? = A.heap[g]?) (e2 : A'.heap[lb]? = A.heap[lb]?) : Nr w A' g lb n l :=
 ⟨h.lv.blk hb e1, (World.cell?_of_block (w := A) (a := ⟨lb, 0, none⟩) e2).trans h.box, h.lo, h.ne⟩
theorem Nr.below {B : Nat} (h : Nr w A g lb n l) (hb : Below B A A') (hB : w.heap.size ≤ B) (h1 : g < B) (h2 : lb < B) : Nr w A' g lb n l := h.blk (hb.mono hB) (hb.block g h1) (hb.block lb h2)
theorem Nr.on (h : Nr w A g lb n l) (hb : Below A.heap.size A A') : Nr w A' g lb n l := h.below hb h.lv.bel.size h.lv.lt.2 h.lt
theorem Nr.sm {B : Nat} (h : Nr w A g lb n l) (hs : Sm B A A') (hB : w.heap.size ≤ B) : Nr w A' g lb n l := ⟨h.lv.sm hs hB, hs.cell h.box, h.lo, h.ne⟩
theorem Nr.set (h : Nr w A g lb n l) (j : Nat) (x : Int) : Nr w (A.setCell ⟨g, j, none⟩ (.int .i64 x)) g lb n (l.set j x) :=
 ⟨by rw [← IV_set]; exact h.lv.set j _, by rw [cset_far (by simp; exact h.ne)]; exact h.box, h.lo, h.ne⟩
end
theorem list_eq {l m : List Int} {n : Nat} (h1 : l.length = n) (h2 : m.length = n) (h : ∀ j, j < n → ofL l j = ofL m j) : l = m := by
 apply List.ext_getElem (by rw [h1, h2])
 intro j hj hj'
 have := h j (by omega)
 unfold ofL at this
 rw [List.getD_eq_getElem?_getD, List.getD_eq_getElem?_getD, List.getElem?_eq_getElem hj, List.getElem?_eq_getElem hj'] at this
 exact this
theorem numbered_step {l : List Int} {n k r : Nat} {ms : List Nat} {q : Nat} {V : Nat → Int} (hl : l.length = n) (hq : q < ms.length) (hr : ms[q] = r) (hrn : r < n) (h : ∀ j, j < n → ofL l j = if j ∈ ms.take q then (k : Int) else V j) : ∀ j, j < n → ofL (l.set r (k : Int)) j = if j ∈ ms.take (q + 1) then (k : Int) else V j := by
 intro j hj
 rw [ofL_set _ _ _ _ (by omega), List.take_succ_eq_append_getElem hq, hr]
 by_cases e : j = r
 · rw [if_pos e, if_pos (by rw [List.mem_append, List.mem_singleton]; exact .inr e)]
 · rw [if_neg e, h j hj]
   by_cases e2 : j ∈ ms.take q
   · rw [if_pos e2, if_pos (List.mem_append.2 (.inl e2))]
   · rw [if_neg e2, if_neg (by rw [List.mem_append, List.mem_singleton]; exact fun x => x.elim e2 e)]
section
attribute [local go_sem] Oper.semAt_some
theorem numbered_any (cb n : Nat) (U : Nat → Int) (S : Nat → Value) (M : Nat) (w : World) (hC : Cs w cb n (colOf U) S) (hn : n ≤ 12) (hM : (conL (colOf U) n).length = M * 5) (hMk : M ≤ 1000) :
 Calls Tryz.prog 19 #[.pointer (some ⟨cb, 0, none⟩)] w fun e w' => ∃ g : Nat, e = .returned (.slice (some ⟨g, 0, none⟩) n n) ∧ LV w w' 3 g n n (IV (grpL U (ofL (conL (colOf U) n)) M n)) := by
 have hset := cset_map
 have hCt := con_ct (colOf U) hM
 obtain ⟨L, hL⟩ : ∃ L, lab (edg U (ofL (conL (colOf U) n))) M = L := ⟨_, rfl⟩
 have hT : Shut (Tops (fxU U) L) := hL ▸ lab_tops U _ M
 have hE := grpL_eq (U := U) hCt
 rw [hL] at hE
 have hEl := grpL_len U (ofL (conL (colOf U) n)) M n
 have hGr : ∀ w1, Below w.heap.size w w1 → ItG Tryz.prog 24 #[.pointer (some ⟨cb, 0, none⟩)] (ColF cb n (fxU U)) (GrE cb n (fxU U) L) (cntp (fstB (fxU U) L) n) w1 := fun w1 hb => groups_any cb n U S M w1 (hC.below hb) hn hM hMk L (fun j => by rw [← hL]) (fxU U)
 have hCo : ∀ w1, Below w.heap.size w w1 → ColF cb n (fxU U) w1 := fun w1 hb => ⟨_, _, hC.below hb, fun j _ => rfl⟩
 generalize grpL U (ofL (conL (colOf U) n)) M n = R at hE hEl ⊢
 clear hL hM hMk hCt
 have hmk : ∀ w, (Instr.makeSlice 25 (.int .i64 (n : Int)) (.int .i64 (n : Int))).run Tryz.prog w = .ok (.slice (some ⟨w.heap.size, 0, none⟩) n n) (w.alloc (.cells (madeCells #[.int .i64 0] n) 3)) := fun w => by have q := make_rows (P := Tryz.prog) 25 3 (.int .i64 0) 1 8 Tryz.underlying25 (by kernel_rfl) .i64 .i64 n (by omega) (by omega) w; rw [Nat.mul_one] at q; exact q
 obtain ⟨ad, cc, hS0⟩ := (hC.own 0 (by omega)).is
 have hd0 := hC.hd 0 (by omega)
 rw [hS0] at hd0
 have hN0 : Nr w ((w.alloc (.cells (madeCells #[.int .i64 0] n) 3)).alloc (Obj.cells #[.slice (some ⟨w.heap.size, 0, none⟩) n n] 25)) w.heap.size (w.heap.size + 1) n (List.replicate n 0) :=
  ⟨(LV.made w 3 n (by unfold maxLen; omega)).on ((Below.refl _ _).alloc (Nat.le_refl _) _), by go_simp, by omega, by omega⟩
 refine calls_of_wp_marks Tryz.func19 rfl ?_
 simp only [Tryz.ntmps19, List.size_toArray, List.length_cons, List.length_nil, Nat.reduceAdd, Nat.reduceSub, Array.replicate_succ, Array.replicate_zero, List.push_toArray, List.append_toArray, List.nil_append, List.cons_append]
 go_upto_region 3 with fail
 clear hmk hd0 hS0
 generalize ((w.alloc (.cells (madeCells #[.int .i64 0] n) 3)).alloc (Obj.cells #[.slice (some ⟨w.heap.size, 0, none⟩) n n] 25)) = w2 at hN0 ⊢
 generalize hlb : w.heap.size + 1 = lb at hN0 ⊢
 clear hlb
 generalize w.heap.size = g at hN0 ⊢
 go_loopw [17] (fun s wr => ∃ (k : Nat) (l : List Int), k ≤ n ∧ s = .int .i64 (k : Int) ∧ Nr w wr g lb n l ∧ ∀ j, j < k → ofL l j = -1) (fun s _ => n - (intOf s).toNat)
 case atStart => exact ⟨0, _, Nat.zero_le _, rfl, hN0, fun j h => absurd h (Nat.not_lt_zero _)⟩
 case round =>
  clear hN0
  obtain ⟨k, l, hk, rfl, hN, hl⟩ := hrel
  have u0 := hN.box
  by_cases hlt : k < n
  · have hkn : (k : Int) < (n : Int) := by omega
    have uk := hN.lv.ic hlt
    have uf := hN.lv.fro k
    have hN2 := hN.set k (-1)
    have hlen := hN.len
    go_wp2_with fail
    go_roundw
    case rel =>
     refine ⟨k + 1, _, by omega, by go_num, hN2, fun j hj => ?_⟩
     rw [ofL_set _ _ _ _ (by omega)]
     split
     · rfl
     · exact hl j (by omega)
    case measure => simp [intOf]; omega
  · obtain rfl : n = k := by omega
    go_wp2
    have hbr := hN.lv.bel
    have hbz := hbr.size
    have hgl := hN.lv.lt.2
    have hll := hN.lt
    refine wp_range_outG (gf := 24) (bound := #[.pointer (some ⟨cb, 0, none⟩)]) rfl groups_enters (hGr wr hbr) (fun H k args A hE => by obtain ⟨i, v, _, _, _, rfl, _⟩ := hE; rfl)
     (fun H k A => wr.heap.size ≤ H ∧ ∃ l, Nr w A g lb n l ∧ ∀ j, j < n → ofL l j = vnum (fxU U) L k j) ?hI ?hIs ?hcol ?h0 ?round ?done
    case hI => rintro H k A B' ⟨h0, l', h1, h2⟩ hk; exact ⟨h0, l', h1.below hk.below (by omega) (by omega) (by omega), h2⟩
    case hIs => rintro H k A B' ⟨h0, l', h1, h2⟩ hs; exact ⟨h0, l', h1.sm hs hbr.size, h2⟩
    case hcol => rintro H k A ⟨_, l', h1, h2⟩; exact hCo A h1.lv.bel
    case h0 => intro W0 hb hz; exact ⟨by omega, l, hN.on hb, fun j hj => by rw [hl j hj, vnum_0]⟩
    case done =>
     rintro D H W hD ⟨_, l', h1, h2⟩ hK
     have hbx := h1.box
     have hres : l' = R := list_eq h1.len hEl (fun j hj => by rw [h2 j hj, vnum_all hT.out hj, hE j hj])
     subst hres
     go_wp2
     refine marks_ret (B := w.heap.size) (by omega) rfl hK fun W' hS => ⟨.slice (some ⟨g, 0, none⟩) n n, ?_, g, rfl, h1.lv.sm hS (Nat.le_refl _)⟩
     simp [results, Tryz.results19, go_sem, *]
    case round =>
     rintro lr H kk W args hlr1 hlr2 hWz ⟨hHz, l', hN1, hv1⟩ hkk ⟨i, v, hi, hfi, hck, rfl, hHL⟩
     clear hGr hN hl u0 hE hEl hlt hk hkk hCo
     have hLi : L i = i := by unfold fstB at hfi; exact of_decide_eq_true (by simp at hfi; exact decide_eq_true hfi.2)
     have hmm := memL_mem L i n
     have hml := memL_le L i n
     have hm0 : 0 < (memL L i n).length := List.length_pos_of_mem ((hmm i).2 ⟨hi, hLi⟩)
     have hvv : Shut (∀ j, j < n → vnum (fxU U) L (kk + 1) j = if j ∈ memL L i n then (kk : Int) else vnum (fxU U) L kk j) := fun j hj => by
      by_cases e : L j = i
      · rw [if_pos ((hmm j).2 ⟨hj, e⟩)]; exact vnum_in hT.out hfi hck e
      · rw [if_neg (fun q => e ((hmm j).1 q).2)]; exact vnum_out hT.out hfi hck e
     generalize memL L i n = ms at hmm hml hm0 hvv hHL ⊢
     obtain ⟨mg, mc, rfl, hmg, hmg2⟩ := hHL.some hm0
     simp only [List.zip_toArray, List.zip_cons_cons, List.zip_nil_left, List.foldl_toArray, List.foldl_cons, List.foldl_nil, List.setIfInBounds_toArray, List.set_cons_succ, List.set_cons_zero]
     refine wpIn_seq_k fun K1 hK1 => ?_
     refine wpIn_region_plain (by rintro ⟨_, _, h⟩; exact h) (by kernel_rfl) ?_
     go_wp2
     refine wpIn_region_plain (by rintro ⟨_, _, h⟩; exact h) (by kernel_rfl) ?_
     go_wp2
     refine ⟨KeepsFrom.refl _ _, fun W2 hS hKc hr => ?_⟩
     have hN2 := hN1.sm hS hbr.size
     have hHL2 := hHL.sm hS
     have hKc2 : Kc (wr.heap.size + 2) H W W2 := hKc _ _ hlr2
     have hz2 := hS.size
     clear hN1 hHL hKc hS hr hmg2
     refine wpIn_block ?_
     gi_wp2
     gi_loopw [30] (fun s wx => ∃ (q : Nat) (l2 : List Int), q ≤ ms.length ∧ s = .int .i64 (q : Int) ∧ Nr w wx g lb n l2 ∧ (∀ j, j < n → ofL l2 j = if j ∈ ms.take q then (kk : Int) else vnum (fxU U) L kk j) ∧ HL wx H cb (.slice (some ⟨mg, 0, none⟩) ms.length mc) ms ∧ Fr (fun b => b = g) W2 wx) (fun s _ => ms.length - (intOf s).toNat)
     case atStart => exact ⟨0, l', Nat.zero_le _, rfl, hN2, fun j hj => by rw [hv1 j hj, List.take_zero, if_neg (by simp)], hHL2, Fr.refl _ _⟩
     case round =>
      obtain ⟨q, l2, hq, rfl, hN3, hv3, hHL3, hF3⟩ := hrel
      clear hN2 hHL2
      by_cases hq2 : q < ms.length
      · obtain ⟨c0, c1⟩ := hHL3.cells hq2
        obtain ⟨r, hr⟩ : ∃ r, ms[q] = r := ⟨_, rfl⟩
        rw [hr] at c0
        have hrn : r < n := ((hmm r).1 (hr ▸ List.getElem_mem hq2)).1
        have b0 := hN3.box
        have rk := hN3.lv.ic hrn
        have rf := hN3.lv.fro r
        have hg3 := hN3.lv.lt.2
        have hl3 := hN3.lt
        have hqi : (q : Int) < (ms.length : Int) := by omega
        have hri : (r : Int) < (n : Int) := by omega
        gi_wp2
        go_roundw
        case rel =>
         have hE1 : Below (wr.setCell ⟨g, r, none⟩ (.int .i64 (kk : Int))).heap.size (wr.setCell ⟨g, r, none⟩ (.int .i64 (kk : Int))) ((wr.setCell ⟨g, r, none⟩ (.int .i64 (kk : Int))).alloc (Obj.cells #[.int .i64 (r : Int), .pointer (some ⟨cb, 0, none⟩)] 60)) := (Below.refl _ _).alloc (Nat.le_refl _) _
         have hF1 : Fr (fun b => b = g) wr (wr.setCell ⟨g, r, none⟩ (.int .i64 (kk : Int))) := Fr.setCell (X := fun b => b = g) (p := ⟨g, r, none⟩) rfl _
         refine ⟨q + 1, _, by omega, by go_num, (hN3.set r (kk : Int)).on hE1, numbered_step hN3.len hq2 hr hrn hv3, ?_, (hF3.trans hF1).trans (Fr.of_below hE1)⟩
         exact (hHL3.frame hF1 (fun b e q => by simp only [Value.ownBlock, Option.some.injEq] at e; omega)).below hE1
        case measure => simp [intOf]; omega
      · obtain rfl : q = ms.length := by omega
        gi_wp2
        refine ⟨hF3.keeps _, ⟨hHz, l2, hN3, fun j hj => ?_⟩, hKc2.trans (Kc.fr hF3 (fun b e => .inl (by omega)))⟩
        rw [hvv.out j hj, hv3 j hj, List.take_length]
end
end Go.Proofs.YtalkkjhehndaoaaGreat
namespace Go.Proofs.YtalkkjhehndaoaaGreat
open Go.RowKit
set_option linter.unusedVariables false
set_option linter.unusedSimpArgs false
theorem sBodiesOk_any (a : Option Addr) (n c : Nat) (U : Nat → Int) (w : World) (h : Flat w a (n * 12) U) (hn : n ≤ 1048576) :
 Calls Tryz.prog 10 #[.slice a n c] w fun e w' => e = .returned (.bool (bodsB n U)) ∧ Below w.heap.size w w' := by
 have hset := cset_map
 go_enter Tryz.func10, Tryz.ntmps10
 go_wp2
 go_loopw [3] (fun i wr => ∃ k : Nat, k ≤ n ∧ i = .int .i64 (k : Int) ∧ Below w.heap.size w wr ∧ allBB U k = true) (fun i _ => n - (intOf i).toNat)
 case atStart => exact ⟨0, Nat.zero_le _, rfl, Below.refl _ _, rfl⟩
 case round =>
  obtain ⟨k, hk, rfl, hB, hall0⟩ := hrel
  have hall : Shut (allBB U k = true) := hall0
  clear hall0
  by_cases hlt : k < n
  · have hkn : (k : Int) < (n : Int) := by omega
    obtain ⟨b, o, rfl, hbl, hc⟩ := (h.below hB) (by omega)
    have c0 := hc (k * 12) (by omega)
    have c1 := hc (k * 12 + 1) (by omega)
    have c2 := hc (k * 12 + 2) (by omega)
    have c3 := hc (k * 12 + 3) (by omega)
    have c4 := hc (k * 12 + 4) (by omega)
    have c5 := hc (k * 12 + 5) (by omega)
    have c6 := hc (k * 12 + 6) (by omega)
    have c7 := hc (k * 12 + 7) (by omega)
    have c8 := hc (k * 12 + 8) (by omega)
    have c9 := hc (k * 12 + 9) (by omega)
    have c10 := hc (k * 12 + 10) (by omega)
    have c11 := hc (k * 12 + 11) (by omega)
    simp only [← Nat.add_assoc] at c0 c1 c2 c3 c4 c5 c6 c7 c8 c9 c10 c11
    go_upto_region 4 with fail
    cases hi : bodyB (fun j => U (k * 12 + j)) with
    | false =>
     have hno : Shut (stepBB U k = false) := by show stepBB U k = false; rw [stepBB, hi]; rfl
     clear hc
     refine wp_region_held_drew (S := fun w' => w'.cell? ⟨b, o + k * 12, none⟩ = some (.int .i64 (U (k * 12))) ∧ w'.cell? ⟨b, o + k * 12 + 1, none⟩ = some (.int .i64 (U (k * 12 + 1))) ∧ w'.cell? ⟨b, o + k * 12 + 2, none⟩ = some (.int .i64 (U (k * 12 + 2))) ∧ w'.cell? ⟨b, o + k * 12 + 3, none⟩ = some (.int .i64 (U (k * 12 + 3))) ∧ w'.cell? ⟨b, o + k * 12 + 4, none⟩ = some (.int .i64 (U (k * 12 + 4))) ∧ w'.cell? ⟨b, o + k * 12 + 5, none⟩ = some (.int .i64 (U (k * 12 + 5))) ∧ w'.cell? ⟨b, o + k * 12 + 6, none⟩ = some (.int .i64 (U (k * 12 + 6))) ∧ w'.cell? ⟨b, o + k * 12 + 7, none⟩ = some (.int .i64 (U (k * 12 + 7))) ∧ w'.cell? ⟨b, o + k * 12 + 8, none⟩ = some (.int .i64 (U (k * 12 + 8))) ∧ w'.cell? ⟨b, o + k * 12 + 9, none⟩ = some (.int .i64 (U (k * 12 + 9))) ∧ w'.cell? ⟨b, o + k * 12 + 10, none⟩ = some (.int .i64 (U (k * 12 + 10))) ∧ w'.cell? ⟨b, o + k * 12 + 11, none⟩ = some (.int .i64 (U (k * 12 + 11)))) (by kernel_rfl) ?_ (fun hHeld => ?_)
     · (try dsimp only)
       (first | (go_simp; done) | (go_keep; done))
     refine tq 0 hHeld ?_
     refine tq 1 hHeld ?_
     refine tq 2 hHeld ?_
     refine tq 3 hHeld ?_
     (refine tc 4 fun K hK => ?_; go_simp; (go_at_call 22; refine (sBodyOk_q (fun j => U (k * 12 + j)) _ _ (by exact hi)).mono ?_; rintro e w2 ⟨rfl, hb2⟩; obtain ⟨hc2, hf2⟩ := bcell hb2; have hz2 := hb2.size; (try simp only [World.size_drew, World.size_alloc, World.size_setCell] at hc2 hf2 hz2); have hk3 := fun o => hc2 b o (by omega); clear hc2 hf2); (try go_wp2_with fail); refine tr hK (fun hHeld => ?_); clear hK K)
     refine tq 5 hHeld ?_
     refine tq 6 hHeld ?_
     refine tn 7 hHeld ?_
     refine tn 8 hHeld ?_
     refine tn 9 hHeld ?_
     refine tn 10 hHeld ?_
     refine tn 11 hHeld ?_
     refine tn 12 hHeld ?_
     refine tn 13 hHeld ?_
     refine tn 14 hHeld ?_
     refine tn 15 hHeld ?_
     refine tn 16 hHeld ?_
     refine tn 17 hHeld ?_
     refine tn 18 hHeld ?_
     refine tn 19 hHeld ?_
     refine tn 20 hHeld ?_
     refine tn 21 hHeld ?_
     refine tn 22 hHeld ?_
     refine tq 23 hHeld ?_
     refine wpAnyH_done (by kernel_rfl) ?_ _
     go_wp2_with fail
     go_ret
     exact ⟨by rw [bodsB, allBB_no hno.out n hlt, Bool.and_false]; rfl, hB.trans (hb2.ofDr.mono hB.size)⟩
    | true =>
     by_cases hk0 : 0 < k
     · have hd0 : decide (0 < k) = true := decide_eq_true hk0
       obtain ⟨j, hj⟩ : ∃ j, j + 1 = k := ⟨k - 1, by omega⟩
       have hj' : (k : Int) - 1 = (j : Int) := by omega
       have hjn : j < n := by omega
       have hwj : IntKind.i64.wrap (j : Int) = (j : Int) := i64w (by omega)
       have HJ : Shut (j + 1 = k) := hj
       clear hj
       have p0 := hc (j * 12) (by omega)
       clear hc
       by_cases hge : U (j * 12) < U (k * 12)
       · have hdg : decide (U (k * 12) ≤ U (j * 12)) = false := decide_eq_false (by omega)
         have hyes : Shut (stepBB U k = true) := by show stepBB U k = true; rw [stepBB, hi, show k - 1 = j from by have := HJ.out; omega]; simp [hge]
         refine wp_region_held_drew (S := fun w' => w'.cell? ⟨b, o + k * 12, none⟩ = some (.int .i64 (U (k * 12))) ∧ w'.cell? ⟨b, o + k * 12 + 1, none⟩ = some (.int .i64 (U (k * 12 + 1))) ∧ w'.cell? ⟨b, o + k * 12 + 2, none⟩ = some (.int .i64 (U (k * 12 + 2))) ∧ w'.cell? ⟨b, o + k * 12 + 3, none⟩ = some (.int .i64 (U (k * 12 + 3))) ∧ w'.cell? ⟨b, o + k * 12 + 4, none⟩ = some (.int .i64 (U (k * 12 + 4))) ∧ w'.cell? ⟨b, o + k * 12 + 5, none⟩ = some (.int .i64 (U (k * 12 + 5))) ∧ w'.cell? ⟨b, o + k * 12 + 6, none⟩ = some (.int .i64 (U (k * 12 + 6))) ∧ w'.cell? ⟨b, o + k * 12 + 7, none⟩ = some (.int .i64 (U (k * 12 + 7))) ∧ w'.cell? ⟨b, o + k * 12 + 8, none⟩ = some (.int .i64 (U (k * 12 + 8))) ∧ w'.cell? ⟨b, o + k * 12 + 9, none⟩ = some (.int .i64 (U (k * 12 + 9))) ∧ w'.cell? ⟨b, o + k * 12 + 10, none⟩ = some (.int .i64 (U (k * 12 + 10))) ∧ w'.cell? ⟨b, o + k * 12 + 11, none⟩ = some (.int .i64 (U (k * 12 + 11))) ∧ w'.cell? ⟨b, o + j * 12, none⟩ = some (.int .i64 (U (j * 12)))) (by kernel_rfl) ?_ (fun hHeld => ?_)
         · (try dsimp only)
           (first | (go_simp; done) | (go_keep; done))
         refine tq 0 hHeld ?_
         refine tq 1 hHeld ?_
         refine tq 2 hHeld ?_
         refine tq 3 hHeld ?_
         (refine tc 4 fun K hK => ?_; go_simp; (go_at_call 22; refine (sBodyOk_q (fun j => U (k * 12 + j)) _ _ (by exact hi)).mono ?_; rintro e w2 ⟨rfl, hb2⟩; obtain ⟨hc2, hf2⟩ := bcell hb2; have hz2 := hb2.size; (try simp only [World.size_drew, World.size_alloc, World.size_setCell] at hc2 hf2 hz2); have hk3 := fun o => hc2 b o (by omega); clear hc2 hf2); (try go_wp2_with fail); refine tr hK (fun hHeld => ?_); clear hK K)
         refine tq 5 hHeld ?_
         refine tq 6 hHeld ?_
         refine tq 7 hHeld ?_
         refine tq 8 hHeld ?_
         refine tq 9 hHeld ?_
         refine tq 10 hHeld ?_
         refine tq 11 hHeld ?_
         refine tq 12 hHeld ?_
         refine tq 13 hHeld ?_
         refine tq 14 hHeld ?_
         refine tq 15 hHeld ?_
         refine tq 16 hHeld ?_
         refine tq 17 hHeld ?_
         refine tq 18 hHeld ?_
         refine tq 19 hHeld ?_
         refine tq 20 hHeld ?_
         refine tq 21 hHeld ?_
         refine tq 22 hHeld ?_
         refine tq 23 hHeld ?_
         refine wpAnyH_done (by kernel_rfl) ?_ _
         go_wp2_with fail
         go_roundw
         case rel => exact ⟨k + 1, by omega, by go_num, hB.trans (hb2.ofDr.mono hB.size), by rw [allBB, hall.out, hyes.out]; rfl⟩
         case measure => simp [intOf]; omega
       · have hdg : decide (U (k * 12) ≤ U (j * 12)) = true := decide_eq_true (by omega)
         have hno : Shut (stepBB U k = false) := by show stepBB U k = false; rw [stepBB, show k - 1 = j from by have := HJ.out; omega]; have := HJ.out; simp [hge]; omega
         refine wp_region_held_drew (S := fun w' => w'.cell? ⟨b, o + k * 12, none⟩ = some (.int .i64 (U (k * 12))) ∧ w'.cell? ⟨b, o + k * 12 + 1, none⟩ = some (.int .i64 (U (k * 12 + 1))) ∧ w'.cell? ⟨b, o + k * 12 + 2, none⟩ = some (.int .i64 (U (k * 12 + 2))) ∧ w'.cell? ⟨b, o + k * 12 + 3, none⟩ = some (.int .i64 (U (k * 12 + 3))) ∧ w'.cell? ⟨b, o + k * 12 + 4, none⟩ = some (.int .i64 (U (k * 12 + 4))) ∧ w'.cell? ⟨b, o + k * 12 + 5, none⟩ = some (.int .i64 (U (k * 12 + 5))) ∧ w'.cell? ⟨b, o + k * 12 + 6, none⟩ = some (.int .i64 (U (k * 12 + 6))) ∧ w'.cell? ⟨b, o + k * 12 + 7, none⟩ = some (.int .i64 (U (k * 12 + 7))) ∧ w'.cell? ⟨b, o + k * 12 + 8, none⟩ = some (.int .i64 (U (k * 12 + 8))) ∧ w'.cell? ⟨b, o + k * 12 + 9, none⟩ = some (.int .i64 (U (k * 12 + 9))) ∧ w'.cell? ⟨b, o + k * 12 + 10, none⟩ = some (.int .i64 (U (k * 12 + 10))) ∧ w'.cell? ⟨b, o + k * 12 + 11, none⟩ = some (.int .i64 (U (k * 12 + 11))) ∧ w'.cell? ⟨b, o + j * 12, none⟩ = some (.int .i64 (U (j * 12)))) (by kernel_rfl) ?_ (fun hHeld => ?_)
         · (try dsimp only)
           (first | (go_simp; done) | (go_keep; done))
         refine tq 0 hHeld ?_
         refine tq 1 hHeld ?_
         refine tq 2 hHeld ?_
         refine tq 3 hHeld ?_
         (refine tc 4 fun K hK => ?_; go_simp; (go_at_call 22; refine (sBodyOk_q (fun j => U (k * 12 + j)) _ _ (by exact hi)).mono ?_; rintro e w2 ⟨rfl, hb2⟩; obtain ⟨hc2, hf2⟩ := bcell hb2; have hz2 := hb2.size; (try simp only [World.size_drew, World.size_alloc, World.size_setCell] at hc2 hf2 hz2); have hk3 := fun o => hc2 b o (by omega); clear hc2 hf2); (try go_wp2_with fail); refine tr hK (fun hHeld => ?_); clear hK K)
         refine tq 5 hHeld ?_
         refine tq 6 hHeld ?_
         refine tq 7 hHeld ?_
         refine tq 8 hHeld ?_
         refine tq 9 hHeld ?_
         refine tq 10 hHeld ?_
         refine tq 11 hHeld ?_
         refine tq 12 hHeld ?_
         refine tq 13 hHeld ?_
         refine tq 14 hHeld ?_
         refine tq 15 hHeld ?_
         refine tq 16 hHeld ?_
         refine tq 17 hHeld ?_
         refine tq 18 hHeld ?_
         refine tq 19 hHeld ?_
         refine tq 20 hHeld ?_
         refine tq 21 hHeld ?_
         refine tq 22 hHeld ?_
         refine tq 23 hHeld ?_
         refine wpAnyH_done (by kernel_rfl) ?_ _
         go_wp2_with fail
         go_ret
         exact ⟨by rw [bodsB, allBB_no hno.out n hlt, Bool.and_false]; rfl, hB.trans (hb2.ofDr.mono hB.size)⟩
     · have hd0 : decide (0 < k) = false := decide_eq_false hk0
       have HK : Shut (k = 0) := (by omega : k = 0)
       clear hk0 hc
       have hyes : Shut (stepBB U k = true) := by show stepBB U k = true; rw [stepBB, hi, HK.out]; rfl
       refine wp_region_held_drew (S := fun w' => w'.cell? ⟨b, o + k * 12, none⟩ = some (.int .i64 (U (k * 12))) ∧ w'.cell? ⟨b, o + k * 12 + 1, none⟩ = some (.int .i64 (U (k * 12 + 1))) ∧ w'.cell? ⟨b, o + k * 12 + 2, none⟩ = some (.int .i64 (U (k * 12 + 2))) ∧ w'.cell? ⟨b, o + k * 12 + 3, none⟩ = some (.int .i64 (U (k * 12 + 3))) ∧ w'.cell? ⟨b, o + k * 12 + 4, none⟩ = some (.int .i64 (U (k * 12 + 4))) ∧ w'.cell? ⟨b, o + k * 12 + 5, none⟩ = some (.int .i64 (U (k * 12 + 5))) ∧ w'.cell? ⟨b, o + k * 12 + 6, none⟩ = some (.int .i64 (U (k * 12 + 6))) ∧ w'.cell? ⟨b, o + k * 12 + 7, none⟩ = some (.int .i64 (U (k * 12 + 7))) ∧ w'.cell? ⟨b, o + k * 12 + 8, none⟩ = some (.int .i64 (U (k * 12 + 8))) ∧ w'.cell? ⟨b, o + k * 12 + 9, none⟩ = some (.int .i64 (U (k * 12 + 9))) ∧ w'.cell? ⟨b, o + k * 12 + 10, none⟩ = some (.int .i64 (U (k * 12 + 10))) ∧ w'.cell? ⟨b, o + k * 12 + 11, none⟩ = some (.int .i64 (U (k * 12 + 11)))) (by kernel_rfl) ?_ (fun hHeld => ?_)
       · (try dsimp only)
         (first | (go_simp; done) | (go_keep; done))
       refine tq 0 hHeld ?_
       refine tq 1 hHeld ?_
       refine tq 2 hHeld ?_
       refine tq 3 hHeld ?_
       (refine tc 4 fun K hK => ?_; go_simp; (go_at_call 22; refine (sBodyOk_q (fun j => U (k * 12 + j)) _ _ (by exact hi)).mono ?_; rintro e w2 ⟨rfl, hb2⟩; obtain ⟨hc2, hf2⟩ := bcell hb2; have hz2 := hb2.size; (try simp only [World.size_drew, World.size_alloc, World.size_setCell] at hc2 hf2 hz2); have hk3 := fun o => hc2 b o (by omega); clear hc2 hf2); (try go_wp2_with fail); refine tr hK (fun hHeld => ?_); clear hK K)
       refine tq 5 hHeld ?_
       refine tq 6 hHeld ?_
       refine tq 7 hHeld ?_
       refine tq 8 hHeld ?_
       refine tq 9 hHeld ?_
       refine tn 10 hHeld ?_
       refine tn 11 hHeld ?_
       refine tn 12 hHeld ?_
       refine tn 13 hHeld ?_
       refine tn 14 hHeld ?_
       refine tn 15 hHeld ?_
       refine tn 16 hHeld ?_
       refine tn 17 hHeld ?_
       refine tn 18 hHeld ?_
       refine tn 19 hHeld ?_
       refine tn 20 hHeld ?_
       refine tn 21 hHeld ?_
       refine tq 22 hHeld ?_
       refine tq 23 hHeld ?_
       refine wpAnyH_done (by kernel_rfl) ?_ _
       go_wp2_with fail
       go_roundw
       case rel => exact ⟨k + 1, by omega, by go_num, hB.trans (hb2.ofDr.mono hB.size), by rw [allBB, hall.out, hyes.out]; rfl⟩
       case measure => simp [intOf]; omega
  · obtain rfl : k = n := by omega
    by_cases h12 : k ≤ 12
    · have h12' : (k : Int) ≤ 12 := by omega
      go_wp2
      go_ret
      exact ⟨by rw [bodsB, hall.out, decide_eq_true h12]; rfl, hB⟩
    · have h12' : ¬ (k : Int) ≤ 12 := by omega
      go_wp2
      go_ret
      exact ⟨by rw [bodsB, decide_eq_false h12]; rfl, hB⟩
theorem sBodiesOk_q (a : Option Addr) (n c : Nat) (U : Nat → Int) (b : Bool) (w : World) (h : Flat w a (n * 12) U) (hn : n ≤ 1048576) (e : bodsB n U = b) :
 Calls Tryz.prog 10 #[.slice a n c] w fun e w' => e = .returned (.bool b) ∧ Below w.heap.size w w' := by subst e; exact sBodiesOk_any a n c U w h hn
theorem columnsOf_ok (a : Option Addr) (n c : Nat) (U : Nat → Int) (w : World) (h : Flat w a (n * 12) U) (hn : n ≤ 1048576) (e : bodsB n U = true) :
 Calls Tryz.prog 18 #[.slice a n c] w fun e w' => ∃ cb S, e = .returned (.tuple #[.pointer (some ⟨cb, 0, none⟩), .bool true]) ∧ w.heap.size ≤ cb ∧ Cs w' cb n (colOf U) S ∧ Below w.heap.size w w' :=
 (columnsOf_any a n c U w h hn).mono fun e' w' q => by
   obtain ⟨q1, (⟨_, cb, S, q2, q3, q4⟩ | ⟨q2, _⟩)⟩ := q
   · exact ⟨cb, S, q2, q3, q4, q1⟩
   · rw [e] at q2; cases q2
theorem columnsOf_no (a : Option Addr) (n c : Nat) (U : Nat → Int) (w : World) (h : Flat w a (n * 12) U) (hn : n ≤ 1048576) (e : bodsB n U = false) :
 Calls Tryz.prog 18 #[.slice a n c] w fun e w' => e = .returned (.tuple #[.pointer none, .bool false]) ∧ Below w.heap.size w w' :=
 (columnsOf_any a n c U w h hn).mono fun e' w' q => by
   obtain ⟨q1, (⟨q2, _⟩ | ⟨_, q2⟩)⟩ := q
   · rw [e] at q2; cases q2
   · exact ⟨q2, q1⟩
end Go.Proofs.YtalkkjhehndaoaaGreat
