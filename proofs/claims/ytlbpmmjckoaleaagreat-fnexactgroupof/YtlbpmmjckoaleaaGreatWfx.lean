/- Texts of a proof. -/
import Derived.Test.YtlbpmmjckoaleaaGreatB29
import Derived.Test.YtlbpmmjckoaleaaGreatB23
import Derived.Test.YtlbpmmjckoaleaaGreatCsAdd
import Derived.Deep.RegionHeld3
import Derived.Deep.DeepCutAuto
import Derived.LoopNIn
import Derived.LoopIn
import Derived.OwnWalkIn
set_option maxHeartbeats 16000000
set_option maxRecDepth 20000
namespace Go.Proofs.YtlbpmmjckoaleaaGreat
open Go.RowKit
set_option linter.unusedVariables false
set_option linter.unusedSimpArgs false
def selL (p : Nat → Bool) : Nat → List Nat
  | 0 => []
  | k + 1 => selL p k ++ (if p k = true then [k] else [])
theorem selL_le (p : Nat → Bool) : ∀ k, (selL p k).length ≤ k
  | 0 => Nat.le_refl _
  | k + 1 => by
    have := selL_le p k
    rw [selL, List.length_append]
    split <;> simp <;> omega
def selC (C : Nat → Nat → Int) (l : List Nat) : Nat → Nat → Int := fun i j => C i (l.getD j 0)
theorem selC_snoc (C : Nat → Nat → Int) (l : List Nat) (k : Nat) : ∀ i j, j < l.length + 1 → snocC l.length (selC C l) (fun i => C i k) i j = selC C (l ++ [k]) i j := fun i j hj => by
  unfold snocC snoc selC
  by_cases e : j < l.length
  · rw [if_neg (by omega), List.getD_eq_getElem?_getD, List.getD_eq_getElem?_getD, List.getElem?_append_left e]
  · obtain rfl : j = l.length := by omega
    rw [if_pos rfl]
    simp
def Pc (w : World) (vb pb : Nat) : Prop := w.heap[vb]? = some (.cells #[.pointer (some ⟨pb, 0, none⟩)] 54 (0, 0))
theorem Pc.lt {w : World} {vb pb : Nat} (h : Pc w vb pb) : vb < w.heap.size := (Array.getElem?_eq_some_iff.1 h).1
theorem Pc.cell {w : World} {vb pb : Nat} (h : Pc w vb pb) : w.cell? ⟨vb, 0, none⟩ = some (.pointer (some ⟨pb, 0, none⟩)) := by unfold Pc at h; simp [World.cell?, h]
theorem Pc.no {w : World} {vb pb n : Nat} {C : Nat → Nat → Int} {S : Nat → Value} (h : Pc w vb pb) (hC : Cs w pb n C S) : ¬ Xc S vb := by
  rintro ⟨i, hi, e⟩
  rcases (hC.own i hi).2 with ⟨hv, _⟩ | ⟨g, cap, cur, hv, _, hg, _⟩
  · rw [hv] at e; cases e
  · rw [hv] at e
    simp only [Value.ownBlock, Option.some.injEq] at e
    subst e
    unfold Pc at h
    rw [h] at hg
    simp only [Option.some.injEq, Obj.cells.injEq] at hg
    exact absurd hg.2.1 (by decide)
theorem Pc.sm {B : Nat} {w w' : World} {vb pb : Nat} (h : Pc w vb pb) (k : Sm B w w') : Pc w' vb pb := k.cells _ _ h rfl
theorem Pc.below {w w' : World} {vb pb : Nat} (h : Pc w vb pb) (k : Below w.heap.size w w') : Pc w' vb pb := (k.block vb h.lt).trans h
structure Wf (w A : World) (mb vb pb : Nat) (v : Value) (C : Nat → Nat → Int) (l : List Nat) (S : Nat → Value) : Prop where
  bel : Below w.heap.size w A
  pc : Pc A vb pb
  cs : Cs A pb l.length (selC C l) S
  mv : A.cell? ⟨mb, 0, none⟩ = some v
section
variable {w A A' : World} {mb vb pb : Nat} {v : Value} {C : Nat → Nat → Int} {l : List Nat} {S S' : Nat → Value}
theorem Wf.sm {B : Nat} (h : Wf w A mb vb pb v C l S) (k : Sm B A A') (hB : w.heap.size ≤ B) : Wf w A' mb vb pb v C l S := ⟨h.bel.trans (k.below.mono hB), h.pc.sm k, h.cs.sm k, k.cell h.mv⟩
theorem Wf.on (h : Wf w A mb vb pb v C l S) (k : Below A.heap.size A A') : Wf w A' mb vb pb v C l S := ⟨h.bel.trans (k.mono h.bel.size), h.pc.below k, h.cs.below k, (k.cell (p := ⟨mb, 0, none⟩) (cell_lt (a := ⟨mb, 0, none⟩) h.mv)).trans h.mv⟩
theorem Wf.add (h : Wf w A mb vb pb v C l S) (k : Nat) (hmb : mb < pb) (hw : w.heap.size ≤ pb) (hvb : vb ≠ pb) (hc : Cs A' pb (l.length + 1) (snocC l.length (selC C l) (fun i => C i k)) S') (hF : Fr (fun b => b = pb ∨ Xc S b) A A') : Wf w A' mb vb pb v C (l ++ [k]) S' := by
  have e : (l ++ [k]).length = l.length + 1 := by simp
  refine ⟨h.bel.trans (hF.below h.bel.size (fun b q => q.elim (fun q => by omega) (fun q => by have := (h.cs.xlt q).1; omega))), (hF.block vb h.pc.lt (fun q => q.elim hvb (h.pc.no h.cs))).trans h.pc, ?_, (hF.cell (p := ⟨mb, 0, none⟩) (cell_lt (a := ⟨mb, 0, none⟩) h.mv) (fun q => q.elim (fun q => by simp at q; omega) (fun q => by have := (h.cs.xlt q).1; simp at this; omega))).trans h.mv⟩
  rw [e]
  exact hc.congr fun i j _ hj => selC_snoc C l k i j hj
end
theorem withFixed_any (cb n : Nat) (C : Nat → Nat → Int) (S : Nat → Value) (base : Nat) (v : Value) (ms : List Nat) (w : World) (hC : Cs w cb n C S) (hn : n ≤ 12) (hH : HL w base cb v ms) (hms : ms.length ≤ 12) (p : Nat → Bool) (hp0 : ∀ k, k < n → p k = (decide (C 8 k = 0) || decide (k ∈ ms))) :
    Calls Tryz.prog 33 #[.pointer (some ⟨cb, 0, none⟩), v] w fun e w' => ∃ (pb : Nat) (S' : Nat → Value), e = .returned (.pointer (some ⟨pb, 0, none⟩)) ∧ Cs w' pb (selL p n).length (selC C (selL p n)) S' ∧ Below w.heap.size w w' := by
  have hset := cset_map
  obtain ⟨va, vc, hva⟩ := hH.is
  have hE : Below w.heap.size w (((w.alloc (Obj.cells #[v] 61)).alloc (Obj.cells #[.slice none 0 0, .slice none 0 0, .slice none 0 0, .slice none 0 0, .slice none 0 0, .slice none 0 0, .slice none 0 0, .slice none 0 0, .slice none 0 0, .slice none 0 0, .slice none 0 0, .slice none 0 0] 85)).alloc (Obj.cells #[.pointer (some ⟨w.heap.size + 1, 0, none⟩)] 54)) := (((Below.refl _ _).alloc (Nat.le_refl _) _).alloc (by simp) _).alloc (by simp; omega) _
  have hW0 : Wf w (((w.alloc (Obj.cells #[v] 61)).alloc (Obj.cells #[.slice none 0 0, .slice none 0 0, .slice none 0 0, .slice none 0 0, .slice none 0 0, .slice none 0 0, .slice none 0 0, .slice none 0 0, .slice none 0 0, .slice none 0 0, .slice none 0 0, .slice none 0 0] 85)).alloc (Obj.cells #[.pointer (some ⟨w.heap.size + 1, 0, none⟩)] 54)) w.heap.size (w.heap.size + 1 + 1) (w.heap.size + 1) v C [] (fun _ => .slice none 0 0) := by
    refine ⟨hE, ?_, ⟨fun i hi => ?_, fun i hi => by go_simp, fun i hi => OwnL.nil _ _ _ _ _, (fun _ _ _ e => by cases e), (fun _ _ _ _ _ _ e => by cases e)⟩, by go_simp⟩
    · have q := World.alloc_heap_new ((w.alloc (Obj.cells #[v] 61)).alloc (Obj.cells #[.slice none 0 0, .slice none 0 0, .slice none 0 0, .slice none 0 0, .slice none 0 0, .slice none 0 0, .slice none 0 0, .slice none 0 0, .slice none 0 0, .slice none 0 0, .slice none 0 0, .slice none 0 0] 85)) (Obj.cells #[.pointer (some ⟨w.heap.size + 1, 0, none⟩)] 54)
      rw [World.size_alloc, World.size_alloc] at q
      exact q
    · rcases (show i = 0 ∨ i = 1 ∨ i = 2 ∨ i = 3 ∨ i = 4 ∨ i = 5 ∨ i = 6 ∨ i = 7 ∨ i = 8 ∨ i = 9 ∨ i = 10 ∨ i = 11 by omega) with rfl | rfl | rfl | rfl | rfl | rfl | rfl | rfl | rfl | rfl | rfl | rfl <;> go_simp
  have hz2 : (((w.alloc (Obj.cells #[v] 61)).alloc (Obj.cells #[.slice none 0 0, .slice none 0 0, .slice none 0 0, .slice none 0 0, .slice none 0 0, .slice none 0 0, .slice none 0 0, .slice none 0 0, .slice none 0 0, .slice none 0 0, .slice none 0 0, .slice none 0 0] 85)).alloc (Obj.cells #[.pointer (some ⟨w.heap.size + 1, 0, none⟩)] 54)).heap.size = w.heap.size + 1 + 1 + 1 := by simp
  subst hva
  refine calls_of_wp_marks Tryz.func33 rfl ?_
  simp only [Tryz.ntmps33, List.size_toArray, List.length_cons, List.length_nil, Nat.reduceAdd, Nat.reduceSub, Array.replicate_succ, Array.replicate_zero, List.push_toArray, List.append_toArray, List.nil_append, List.cons_append]
  go_wp2
  generalize (((w.alloc (Obj.cells #[.slice va ms.length vc] 61)).alloc (Obj.cells #[.slice none 0 0, .slice none 0 0, .slice none 0 0, .slice none 0 0, .slice none 0 0, .slice none 0 0, .slice none 0 0, .slice none 0 0, .slice none 0 0, .slice none 0 0, .slice none 0 0, .slice none 0 0] 85)).alloc (Obj.cells #[.pointer (some ⟨w.heap.size + 1, 0, none⟩)] 54)) = w2 at hE hW0 hz2 ⊢
  have hC2 := hC.below hE
  obtain ⟨ad, cc, hS0⟩ := (hC2.own 0 (by omega)).is
  have hd0 := hC2.hd 0 (by omega)
  rw [hS0] at hd0
  have hmb : w.heap.size < w.heap.size + 1 := by omega
  have hwp : w.heap.size ≤ w.heap.size + 1 := by omega
  have hvp : w.heap.size + 1 + 1 ≠ w.heap.size + 1 := by omega
  have hpz : w.heap.size + 1 < w2.heap.size := by omega
  obtain ⟨vb, hvb⟩ : ∃ x, w.heap.size + 1 + 1 = x := ⟨_, rfl⟩
  obtain ⟨pb, hpb⟩ : ∃ x, w.heap.size + 1 = x := ⟨_, rfl⟩
  rw [hvb] at hW0 hvp ⊢
  rw [hpb] at hW0 hvp hmb hwp hpz ⊢
  clear hvb hpb
  refine wp_range_out (gf := 42) (bound := #[.pointer (some ⟨cb, 0, none⟩)]) rfl each_enters (each_it cb n _ _ w2 hC2.lt hd0 (by omega)) (fun _ => rfl) (fun k W => ∃ S', Wf w W w.heap.size vb pb (.slice va ms.length vc) C (selL p k) S') (fun _ _ => False) ?_ (fun _ _ _ h _ => h) ⟨_, hW0⟩ ?round ?done (fun _ _ _ _ h _ => h.elim)
  · rintro k A B ⟨S', h1⟩ hs
    exact ⟨S', h1.sm hs (by omega)⟩
  case done =>
    rintro D W hD ⟨S', h1⟩ hK
    have hbx := h1.pc.cell
    go_wp2
    refine marks_ret (B := w2.heap.size) hD rfl hK fun W' hS => ⟨.pointer (some ⟨pb, 0, none⟩), ?_, pb, S', rfl, (h1.sm hS (by omega)).cs, (h1.sm hS (by omega)).bel⟩
    simp [results, Tryz.results33, go_sem, *]
  case round =>
    rintro l0 k X hl0 ⟨S2, hW⟩ hk
    simp only [List.zip_toArray, List.zip_cons_cons, List.zip_nil_left, List.foldl_toArray, List.foldl_cons, List.foldl_nil, List.setIfInBounds_toArray, List.set_cons_succ, List.set_cons_zero]
    refine wpIn_region_plain (by rintro ⟨_, _, h⟩; exact h) (by kernel_rfl) ?_
    go_wp2
    refine ⟨(KeepsOthers.alloc _ _).from _, fun X2 hS hr => ?_⟩
    clear hr
    have hE1 : Below X.heap.size X (X.alloc (Obj.cells #[.int .i64 (k : Int), .pointer (some ⟨cb, 0, none⟩)] 80)) := (Below.refl _ _).alloc (Nat.le_refl _) _
    have b0 : X2.cell? ⟨X.heap.size, 0, none⟩ = some (.int .i64 (k : Int)) := hS.cell (by go_simp)
    have b1 : X2.cell? ⟨X.heap.size, 1, none⟩ = some (.pointer (some ⟨cb, 0, none⟩)) := hS.cell (by go_simp)
    have hbl : X.heap.size < X2.heap.size := by have := hS.size; simp at this; omega
    have hW2 := (hW.on hE1).sm hS (by omega)
    have hXb : ∀ b, Xc S2 b → b < X.heap.size := fun b q => (hW.cs.xlt q).2
    have hpX : pb < X.heap.size := hW.cs.lt
    clear hS hE1 hW
    generalize X.heap.size = bb at b0 b1 hbl hXb hpX ⊢
    have hpk0 := hp0 k hk
    obtain ⟨sl, hsl⟩ : ∃ x, selL p k = x := ⟨_, rfl⟩
    have hsll := selL_le p k
    rw [hsl] at hW2 hsll
    have hCX := hC.below hW2.bel
    have mv := hW2.mv
    have hHX := hH.below hW2.bel
    have stay : ∀ Y, Below X2.heap.size X2 Y → p k = false → KeepsFrom w2.heap.size X2 Y ∧ ∃ S', Wf w Y w.heap.size vb pb (.slice va ms.length vc) C (selL p (k + 1)) S' := fun Y hb hno => ⟨KeepsFrom.of_below hb, S2, by rw [selL, hno, hsl]; simp; exact hW2.on hb⟩
    refine wpIn_block ?_
    refine wpIn_seq_k fun K1 hK1 => ?_
    obtain ⟨fk, hfk⟩ : ∃ b, decide (C 8 k = 0) = b := ⟨_, rfl⟩
    rw [hfk] at hpk0
    cases fk with
    | true =>
      have hp : p k = true := hpk0
      refine wpIn_region_plain (by rintro ⟨_, _, h⟩; exact h) (by kernel_rfl) ?_
      go_wp2_with (go_at_call 48; refine (kFixed_q (Cs.hat hCX hk (by omega)) hfk).mono ?_; rintro e w11 ⟨rfl, hbq⟩)
      refine wpIn_cond_true rfl ?_
      have hCA := hC.below hW2.bel
      have c0 := (hW2.on hbq).pc.cell
      have d0 := (hbq.cell (p := ⟨bb, 0, none⟩) hbl).trans b0
      have d1 := (hbq.cell (p := ⟨bb, 1, none⟩) hbl).trans b1
      refine wpIn_region_held_drew (S := fun w' => w'.cell? ⟨vb, 0, none⟩ = some (.pointer (some ⟨pb, 0, none⟩)) ∧ w'.cell? ⟨bb, 0, none⟩ = some (.int .i64 (k : Int)) ∧ w'.cell? ⟨bb, 1, none⟩ = some (.pointer (some ⟨cb, 0, none⟩))) (by kernel_rfl) (by rintro ⟨_, _, h⟩; exact h) (by kernel_rfl) ?_ (fun hHeld => ?_)
      · (try dsimp only)
        (first | (go_simp; done) | (go_keep; done))
      refine tq 0 hHeld ?_
      refine tq 1 hHeld ?_
      refine tc 2 fun K hK => ?_
      (go_simp
       (go_at_call 53; refine (kBody (Cs.hat (hCA.below (Below.drew hbq)) hk (by omega))).mono ?_; rintro e w21 ⟨rfl, hx⟩)
       have hb21 : Below X2.heap.size X2 w21 := (Below.drew hbq).trans (hx.mono (Below.drew hbq).size)
       have hW3 := hW2.on hb21
       have y0 := hW3.pc.cell
       have z0 := (hb21.cell (p := ⟨bb, 0, none⟩) hbl).trans b0
       have z1 := (hb21.cell (p := ⟨bb, 1, none⟩) hbl).trans b1
       (try go_wp2_with fail)
       refine tr hK (fun hHeld => ?_)
       clear hK K)
      refine tc 3 fun K hK => ?_
      (go_simp
       (go_at_call 52; refine (add_any pb sl.length (selC C sl) (fun i => C i k) S2 _ hW3.cs (by omega)).mono ?_; rintro e w22 ⟨rfl, S3, hC3, hF3⟩)
       have hW4 := hW3.add k hmb hwp hvp hC3 hF3
       have y1 := hW4.pc.cell
       have hnb : ¬ (bb = pb ∨ Xc S2 bb) := fun q => q.elim (fun q => by omega) (fun q => by have := hXb bb q; omega)
       have z2 := (hF3.cell (p := ⟨bb, 0, none⟩) (Nat.lt_of_lt_of_le hbl hb21.size) hnb).trans z0
       have z3 := (hF3.cell (p := ⟨bb, 1, none⟩) (Nat.lt_of_lt_of_le hbl hb21.size) hnb).trans z1
       (try go_wp2_with fail)
       refine tr hK (fun hHeld => ?_)
       clear hK K)
      refine wpAnyH_done (by kernel_rfl) ?_ _
      go_wp2_with fail
      exact ⟨(KeepsFrom.of_below hb21).trans (hF3.keeps _), S3, by rw [selL, if_pos hp, hsl]; exact hW4⟩
    | false =>
      obtain ⟨ck, hck⟩ : ∃ b, decide (k ∈ ms) = b := ⟨_, rfl⟩
      rw [hck] at hpk0
      cases ck with
      | true =>
        have hp : p k = true := hpk0
        refine wpIn_region_plain (by rintro ⟨_, _, h⟩; exact h) (by kernel_rfl) ?_
        go_wp2_with (first | (have _ := m11; go_at_call 51; refine (contains_any k _ (hHX.below hb11) hms _ hck).mono ?_; rintro e w12 ⟨rfl, hb12⟩) | (go_at_call 48; refine (kFixed_q (Cs.hat hCX hk (by omega)) hfk).mono ?_; rintro e w11 ⟨rfl, hb11⟩; have m11 := (hb11.cell (p := ⟨w.heap.size, 0, none⟩) (cell_lt (a := ⟨w.heap.size, 0, none⟩) mv)).trans mv; have e0 := (hb11.cell (p := ⟨bb, 0, none⟩) hbl).trans b0; have e1 := (hb11.cell (p := ⟨bb, 1, none⟩) hbl).trans b1))
        have hbq := hb11.trans (hb12.mono hb11.size)
        refine wpIn_cond_true rfl ?_
        have hCA := hC.below hW2.bel
        have c0 := (hW2.on hbq).pc.cell
        have d0 := (hbq.cell (p := ⟨bb, 0, none⟩) hbl).trans b0
        have d1 := (hbq.cell (p := ⟨bb, 1, none⟩) hbl).trans b1
        refine wpIn_region_held_drew (S := fun w' => w'.cell? ⟨vb, 0, none⟩ = some (.pointer (some ⟨pb, 0, none⟩)) ∧ w'.cell? ⟨bb, 0, none⟩ = some (.int .i64 (k : Int)) ∧ w'.cell? ⟨bb, 1, none⟩ = some (.pointer (some ⟨cb, 0, none⟩))) (by kernel_rfl) (by rintro ⟨_, _, h⟩; exact h) (by kernel_rfl) ?_ (fun hHeld => ?_)
        · (try dsimp only)
          (first | (go_simp; done) | (go_keep; done))
        refine tq 0 hHeld ?_
        refine tq 1 hHeld ?_
        refine tc 2 fun K hK => ?_
        (go_simp
         (go_at_call 53; refine (kBody (Cs.hat (hCA.below (Below.drew hbq)) hk (by omega))).mono ?_; rintro e w21 ⟨rfl, hx⟩)
         have hb21 : Below X2.heap.size X2 w21 := (Below.drew hbq).trans (hx.mono (Below.drew hbq).size)
         have hW3 := hW2.on hb21
         have y0 := hW3.pc.cell
         have z0 := (hb21.cell (p := ⟨bb, 0, none⟩) hbl).trans b0
         have z1 := (hb21.cell (p := ⟨bb, 1, none⟩) hbl).trans b1
         (try go_wp2_with fail)
         refine tr hK (fun hHeld => ?_)
         clear hK K)
        refine tc 3 fun K hK => ?_
        (go_simp
         (go_at_call 52; refine (add_any pb sl.length (selC C sl) (fun i => C i k) S2 _ hW3.cs (by omega)).mono ?_; rintro e w22 ⟨rfl, S3, hC3, hF3⟩)
         have hW4 := hW3.add k hmb hwp hvp hC3 hF3
         have y1 := hW4.pc.cell
         have hnb : ¬ (bb = pb ∨ Xc S2 bb) := fun q => q.elim (fun q => by omega) (fun q => by have := hXb bb q; omega)
         have z2 := (hF3.cell (p := ⟨bb, 0, none⟩) (Nat.lt_of_lt_of_le hbl hb21.size) hnb).trans z0
         have z3 := (hF3.cell (p := ⟨bb, 1, none⟩) (Nat.lt_of_lt_of_le hbl hb21.size) hnb).trans z1
         (try go_wp2_with fail)
         refine tr hK (fun hHeld => ?_)
         clear hK K)
        refine wpAnyH_done (by kernel_rfl) ?_ _
        go_wp2_with fail
        exact ⟨(KeepsFrom.of_below hb21).trans (hF3.keeps _), S3, by rw [selL, if_pos hp, hsl]; exact hW4⟩
      | false =>
        have hp : p k = false := hpk0
        refine wpIn_region_plain (by rintro ⟨_, _, h⟩; exact h) (by kernel_rfl) ?_
        go_wp2_with (first | (have _ := m11; go_at_call 51; refine (contains_any k _ (hHX.below hb11) hms _ hck).mono ?_; rintro e w12 ⟨rfl, hb12⟩) | (go_at_call 48; refine (kFixed_q (Cs.hat hCX hk (by omega)) hfk).mono ?_; rintro e w11 ⟨rfl, hb11⟩; have m11 := (hb11.cell (p := ⟨w.heap.size, 0, none⟩) (cell_lt (a := ⟨w.heap.size, 0, none⟩) mv)).trans mv; have e0 := (hb11.cell (p := ⟨bb, 0, none⟩) hbl).trans b0; have e1 := (hb11.cell (p := ⟨bb, 1, none⟩) hbl).trans b1))
        refine wpIn_cond_false rfl ?_
        refine wpIn_skip ?_
        exact stay _ (hb11.trans (hb12.mono hb11.size)) hp
end Go.Proofs.YtlbpmmjckoaleaaGreat
