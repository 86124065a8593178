/- Texts of a proof. -/
import Derived.Test.YtmnhankcbkfhaaaGreatDoorB4
import Derived.Test.YtmnhankcbkfhaaaGreatDoorB9
import Derived.Test.YtmnhankcbkfhaaaGreatDoorB3
import Derived.Test.YtmnhankcbkfhaaaGreatDoorB23
import Derived.Test.YtmnhankcbkfhaaaGreatDoorB5
import Derived.Test.YtmnhankcbkfhaaaGreatDoorB24
import Derived.Deep.RegionHeld3
import Derived.Deep.DeepCutAuto
import Derived.Test.YtmnhankcbkfhaaaGreatDoorB25
set_option maxHeartbeats 16000000
set_option maxRecDepth 20000
namespace Go.Proofs.YtmnhankcbkfhaaaGreatDoor
open Go.RowKit
set_option linter.unusedVariables false
def lvK (U : Nat → Int) (k : Nat) : Bool := !decide (U (k * 12 + 8) = 0) && !decide (U (k * 12 + 11) = 8)
def ItV (P : Program) (gf : Nat) (bound : Array Value) (encs : Nat → Array Value) (Col : (Nat → Int) → World → Prop) (nn : Nat) (w : World) : Prop :=
 ∀ (l : Nat) (J : Nat → (Nat → Int) → World → Prop) (U0 : Nat → Int) (W : World), Below w.heap.size w W →
  (∀ k U A A', J k U A → Sm W.heap.size A A' → J k U A') → (∀ k U A, J k U A → Col U A) →
  (∀ k U A, J k U A → k < nn → lvK U k = false → J (k + 1) U A) →
  (∀ k U A, J k U A → k < nn → lvK U k = true → YieldAt Fence.wide 0 P l (encs k) A fun e A' => e = .returned (.bool true) ∧ (∃ U', J (k + 1) U' A') ∧ Kcs W.heap.size (fun _ => True) A A') →
  J 0 U0 W → CallsIn Fence.wide 0 P gf (bound ++ #[.func (.yield l) #[] #[]]) W fun e A => (∃ v, e = .returned v) ∧ ∃ U, J nn U A
theorem wp_range_outV {P : Program} {g : Operand} {ps : Array Tmp} {assign body : Code} {Q : Exit → Act → World → Prop} {a : Act} {w : World} {gf : Nat} {bound : Array Value}
 (hg : a.eval g = .func (.func gf) bound #[]) (eg : ∀ args w, (callFunc gf args).run P w = .ok (.enter gf args) w)
 {encs : Nat → Array Value} {Col : (Nat → Int) → World → Prop} {nn : Nat} (hit : ItV P gf bound encs Col nn w) (hps : ∀ k, (encs k).size = ps.size)
 (I : Nat → (Nat → Int) → World → Prop) (hI : ∀ k U A B, I k U A → Sm w.heap.size A B → I k U B) (hcol : ∀ k U A, I k U A → Col U A) (U0 : Nat → Int) (h0 : I 0 U0 w)
 (hskip : ∀ k U A, I k U A → k < nn → lvK U k = false → I (k + 1) U A)
 (hround : ∀ l k U W, w.heap.size ≤ l → l < w.heap.size + 2 → w.heap.size + 2 ≤ W.heap.size → I k U W → k < nn → lvK U k = true →
   assign.wpIn (Fence.wide.inRound l) 0 P (Exit.then (fun a₁ W₁ => KeepsFrom w.heap.size W W₁ ∧ ∀ W₂, Sm w.heap.size W₁ W₂ → (∀ (B' : Nat) (H' : Nat → Prop), l < B' → Kcs B' H' W₁ W₂) → (∃ r, W₂.heap[l]? = some (.loop r)) →
    body.wpIn (Fence.wide.inRound l) 0 P (rdPost w.heap.size (fun W' => (∃ U', I (k + 1) U' W') ∧ Kcs (w.heap.size + 2) (fun _ => True) W W') (fun _ _ => False) W₂) a₁ W₂) (fun _ _ _ => False))
   { tmps := (ps.zip (encs k)).foldl (fun t (p, v) => t.setIfInBounds p v) a.tmps, defers := [] } W)
 (hdone : ∀ (D : Nat) (U : Nat → Int) (W : World), w.heap.size ≤ D → I nn U W → W.heap[D]? = some (.deferred (some [])) → Q .normal { a with defers := { target := .collected D, args := #[] } :: a.defers } W) :
 (Code.rangeFunc g ps assign body).wp P Q a w := by
 refine wpIn_wide.1 (wpIn_rangeFunc (n := 0) ?_)
 intro fn _
 obtain ⟨rec, hrec⟩ : ∃ rec : LoopState → Option Code → Loop, rec = fun st pe => { state := st, pending := pe, fn, tmps := a.tmps, params := ps, assign, body, defers := w.heap.size } := ⟨_, rfl⟩
 obtain ⟨W1, hW1⟩ : ∃ W1, (w.alloc (.deferred (some []))).alloc (.loop (rec .ready none)) = W1 := ⟨_, rfl⟩
 have hb1 : Below w.heap.size w W1 := by rw [← hW1]; exact ((Below.refl _ w).alloc (Nat.le_refl _) _).alloc (by simp) _
 have hz1 : W1.heap.size = w.heap.size + 2 := by rw [← hW1]; simp
 have hL1 : W1.heap[w.heap.size + 1]? = some (.loop (rec .ready none)) := by
  rw [← hW1]; have := World.alloc_heap_new (w.alloc (.deferred (some []))) (.loop (rec .ready none)); rwa [World.size_alloc] at this
 have hK1 : W1.heap[w.heap.size]? = some (.deferred (some [])) := by
  rw [← hW1]; exact (Below.heap_alloc _ _ _ (by simp)).trans (World.alloc_heap_new w _)
 refine ⟨w.heap.size + 1, [{ target := .collected w.heap.size, args := #[] }], W1, { target := .fn (.func gf) #[], args := bound ++ #[.func (.yield (w.heap.size + 1)) #[] #[]] }, W1, gf,
  bound ++ #[.func (.yield (w.heap.size + 1)) #[] #[]], W1, ?_, ?_, fun _ _ => trivial, ?_, (fun e => by cases e), ?_⟩
 · rw [← hW1, hrec]; exact run_enterLoop_outer _ _ _ _ _
 · simp only [resolve, hg]
   simp [go_sem]
 · simp [invoke, go_sem, eg]
 · refine (hit (w.heap.size + 1)
    (fun k U W => I k U W ∧ W.heap[w.heap.size + 1]? = some (.loop (rec .ready none)) ∧ W.heap[w.heap.size]? = some (.deferred (some [])) ∧ w.heap.size + 2 ≤ W.heap.size)
    U0 W1 hb1 ?_ ?_ ?_ ?_ ⟨hI _ _ _ _ h0 (Sm.of_below hb1 (Nat.le_refl _)), hL1, hK1, by omega⟩).mono ?_
   · rintro k U A B ⟨h1, h2, h3, h4⟩ hb
     rw [hz1] at hb
     exact ⟨hI _ _ _ _ h1 ⟨hb.below.mono (by omega), hb.cells⟩, (hb.below.block _ (by omega)).trans h2, (hb.below.block _ (by omega)).trans h3, Nat.le_trans h4 hb.size⟩
   · rintro k U A ⟨h1, _⟩
     exact hcol _ _ _ h1
   · rintro k U A ⟨h1, h2, h3, h4⟩ hk hl
     exact ⟨hskip _ _ _ h1 hk hl, h2, h3, h4⟩
   · rintro k U W ⟨h1, h2, h3, h4⟩ hk hlv
     rw [hz1]
     refine (yield_roundS (P := P) (ps := ps) (assign := assign) (body := body) (a := a) (B := w.heap.size) (l := w.heap.size + 1) (dl := w.heap.size) (fn := fn) (args := encs k) (hps k)
      (I' := fun W' => (∃ U', I (k + 1) U' W') ∧ Kcs (w.heap.size + 2) (fun _ => True) W W')
      (fun A r o h hl => ⟨h.1.imp fun U' h => hI _ _ _ _ h (Sm.putObj _ hl rfl (by omega)), h.2.trans (Kcs.putObj _ (by omega))⟩)
      (Hh := fun W => W.heap[w.heap.size]? = some (.deferred (some [])) ∧ w.heap.size + 2 ≤ W.heap.size) (fun A B h hk => ⟨hk.same _ _ (Nat.le_refl _) h.1 rfl, Nat.le_trans h.2 hk.size⟩) (fun A o h => ⟨(World.putObj_heap_other (by omega)).trans h.1, by simpa [World.putObj] using h.2⟩) hrec (by omega) h2 ⟨h3, h4⟩
      (hround _ k U W (by omega) (by omega) h4 h1 hk hlv)).mono ?_
     rintro e W' ⟨e1, ⟨⟨U', h1⟩, hc⟩, h2, h3, h4⟩
     exact ⟨e1, ⟨U', h1, h2, h3, h4⟩, hc⟩
   · rintro e W2 ⟨⟨v, rfl⟩, U, hi, hl, hk, _⟩
     exact ⟨none, _, by have := run_endLoop (P := P) hl (by rw [hrec]; simp); rw [hrec] at this; exact this, hdone _ U _ (Nat.le_refl _) (hI _ _ _ _ hi (Sm.putObj _ hl rfl (by omega))) ((World.putObj_heap_other (by omega)).trans hk)⟩
end Go.Proofs.YtmnhankcbkfhaaaGreatDoor
namespace Go.Proofs.YtmnhankcbkfhaaaGreatDoor
open Go.RowKit
set_option linter.unusedVariables false
set_option linter.unusedSimpArgs false
theorem wayTimes_z (x y n p q : Int) (w : World) (hx : -1000000000 ≤ x ∧ x ≤ 1000000000) (hy : -1000000000 ≤ y ∧ y ≤ 1000000000) (hn : -1000000000 ≤ n ∧ n ≤ 1000000000) (ep : fc ((x * n).tdiv 256) = p) (eq : fc ((y * n).tdiv 256) = q) :
 Calls Tryz.prog 158 #[vv x y, .int .i64 n] w fun e w' => e = .returned (vv p q) ∧ Below w.heap.size w w' := by
 subst ep eq; exact wayTimes_any x y n w hx hy hn
theorem kMoveU {cb n k : Nat} {U : Nat → Int} {S : Nat → Value} {w : World} (h : Cs w cb n (colOf U) S) (hk : k < n) (hn : n ≤ 1048576) (a4 : -2560000 ≤ U (k * 12 + 4) ∧ U (k * 12 + 4) ≤ 2560000) (a5 : -2560000 ≤ U (k * 12 + 5) ∧ U (k * 12 + 5) ≤ 2560000) (p q : Int) (bp : -20000000 ≤ p ∧ p ≤ 20000000) (bq : -20000000 ≤ q ∧ q ≤ 20000000) :
 Calls Tryz.prog 126 #[hdk cb k, vv p q] w fun e w' => e = .returned (.tuple #[]) ∧ Cs w' cb n (colOf (putRow U k (moveV (fun j => U (k * 12 + j)) p q))) S ∧ Fr (Xc S) w w' := by
 refine (kMove_c h hk hn p q _ _ _ _ (fun j => U (k * 12 + j)) (fun i => rfl) a4 a5 bp bq rfl rfl rfl rfl).mono ?_
 rintro e w1 ⟨rfl, hC, hF⟩
 refine ⟨rfl, hC.congr fun i j hi hj => ?_, hF⟩
 rw [col_put hi]
 unfold setC moveV mvX mvY setV
 by_cases e : j = k
 · subst e
   simp only [and_true, if_true]
   repeat' split
   all_goals rfl
 · simp only [e, and_false, if_false]
theorem td_sh {x m : Int} (hx : -256 ≤ x ∧ x ≤ 256) (hm : 0 ≤ m ∧ m ≤ 30000) : -30000 ≤ (x * m).tdiv 256 ∧ (x * m).tdiv 256 ≤ 30000 ∧ fc ((x * m).tdiv 256) = (x * m).tdiv 256 := by
 have p := mul_bd (a := x) (b := m) (A := 256) (B := 30000) hx (by omega)
 have t := tdiv_le (x := x * m) (B := 30000) (m := 256) (by omega) (by omega) (by omega)
 exact ⟨t.1, t.2, fc_id (by omega) (by omega)⟩
theorem mApart {cb n A B : Nat} {U : Nat → Int} {S : Nat → Value} {w : World} (x y d : Int) (h : Cs w cb n (colOf U) S) (hn : n ≤ 1048576) (hAn : A < n) (hBn : B < n) (hAB : A ≠ B) (oA : BOk (fun j => U (A * 12 + j))) (oB : BOk (fun j => U (B * 12 + j))) (hX : -256 ≤ x ∧ x ≤ 256) (hY : -256 ≤ y ∧ y ≤ 256) (hD : 0 ≤ d ∧ d ≤ 102400) :
 Calls Tryz.prog 146 #[(.agg #[.int .i64 x, .int .i64 y, .int .i64 d, .int .i64 (A : Int), .pointer (some ⟨cb, 0, none⟩), .int .i64 (B : Int), .pointer (some ⟨cb, 0, none⟩)])] w fun e w' => e = .returned (.tuple #[]) ∧ Cs w' cb n (colOf (apartU U A B x y d)) S ∧ Fr (Xc S) w w' := by
 have hset := cset_map
 have hx : ∀ b, w.heap.size ≤ b → ¬ Xc S b := fun b hb x => by have := (h.xlt x).2; omega
 obtain ⟨m, em⟩ : ∃ m, (d - 64).tdiv 4 = m := ⟨_, rfl⟩
 have bm : -30000 ≤ m ∧ m ≤ 30000 := by rw [← em]; exact tdiv_le (by omega) (by omega) (by omega)
 have w1_ : IntKind.i64.wrap (d - 64) = d - 64 := i64w (by omega)
 have w2_ : IntKind.i64.wrap ((d - 64).tdiv 4) = m := by rw [em]; exact i64w (by omega)
 have w3_ : IntKind.i64.wrap m = m := i64w (by omega)
 by_cases hm : 0 < m
 · have hmn : ¬ (m ≤ 0) := by omega
   obtain ⟨sa, esa⟩ : ∃ s, shareV (fun j => U (A * 12 + j)) (fun j => U (B * 12 + j)) m = s := ⟨_, rfl⟩
   obtain ⟨sb, esb⟩ : ∃ s, shareV (fun j => U (B * 12 + j)) (fun j => U (A * 12 + j)) m = s := ⟨_, rfl⟩
   have ba := share_bd (V := (fun j => U (A * 12 + j))) (W := (fun j => U (B * 12 + j))) (n := m) oA.m8.1 oB.m8.1 (by omega)
   have bb := share_bd (V := (fun j => U (B * 12 + j))) (W := (fun j => U (A * 12 + j))) (n := m) oB.m8.1 oA.m8.1 (by omega)
   rw [esa] at ba
   rw [esb] at bb
   obtain ⟨p, ep⟩ : ∃ p, (-x * sa).tdiv 256 = p := ⟨_, rfl⟩
   obtain ⟨q, eq⟩ : ∃ q, (-y * sa).tdiv 256 = q := ⟨_, rfl⟩
   obtain ⟨r, er⟩ : ∃ r, (x * sb).tdiv 256 = r := ⟨_, rfl⟩
   obtain ⟨s, es⟩ : ∃ s, (y * sb).tdiv 256 = s := ⟨_, rfl⟩
   obtain ⟨tp1, tp2, fp⟩ := td_sh (x := -x) (m := sa) (by omega) (by omega)
   obtain ⟨tq1, tq2, fq⟩ := td_sh (x := -y) (m := sa) (by omega) (by omega)
   obtain ⟨tr1, tr2, fr⟩ := td_sh (x := x) (m := sb) (by omega) (by omega)
   obtain ⟨ts1, ts2, fs⟩ := td_sh (x := y) (m := sb) (by omega) (by omega)
   rw [ep] at tp1 tp2
   replace fp := fp.trans ep
   rw [eq] at tq1 tq2
   replace fq := fq.trans eq
   rw [er] at tr1 tr2
   replace fr := fr.trans er
   rw [es] at ts1 ts2
   replace fs := fs.trans es
   have ht := apart_two (U := U) (A := A) (B := B) (x := x) (y := y) (d := d) (p := p) (q := q) (r := r) (s := s) hAB oA oB (by rw [em]; exact hm) (by rw [em, esa]; exact ep) (by rw [em, esa]; exact eq) (by rw [em, esb]; exact er) (by rw [em, esb]; exact es)
   have mA := oA.m8
   have mB := oB.m8
   have hA0 : HAt w cb n A (fun j => U (A * 12 + j)) (gOf S) := h.hat hAn hn
   have hB0 : HAt w cb n B (fun j => U (B * 12 + j)) (gOf S) := h.hat hBn hn
   have l1 := hA0.cbl
   clear ep eq er es
   obtain ⟨U1, eU1⟩ : ∃ U1, putRow U A (moveV (fun j => U (A * 12 + j)) p q) = U1 := ⟨_, rfl⟩
   rw [eU1] at ht
   rw [← ht]
   clear ht
   have r8A : U1 (A * 12 + 8) = U (A * 12 + 8) := by rw [← eU1, row_is 8 (by omega)]; rfl
   have r8B : U1 (B * 12 + 8) = U (B * 12 + 8) := by rw [← eU1, row_else (fun e => hAB e.symm) 8 (by omega)]
   have oB1 : (-2560000 ≤ U1 (B * 12 + 4) ∧ U1 (B * 12 + 4) ≤ 2560000) ∧ (-2560000 ≤ U1 (B * 12 + 5) ∧ U1 (B * 12 + 5) ≤ 2560000) := by rw [← eU1, row_else (fun e => hAB e.symm) 4 (by omega), row_else (fun e => hAB e.symm) 5 (by omega)]; exact ⟨oB.a4, oB.a5⟩
   have esb1 : shareV (fun j => U1 (B * 12 + j)) (fun j => U1 (A * 12 + j)) m = sb := (shareV_congr m r8B r8A).trans esb
   have mA1 : 0 ≤ U1 (A * 12 + 8) ∧ U1 (A * 12 + 8) ≤ 1000 := by rw [r8A]; exact mA
   have mB1 : 0 ≤ U1 (B * 12 + 8) ∧ U1 (B * 12 + 8) ≤ 1000 := by rw [r8B]; exact mB
   go_enter Tryz.func146, Tryz.ntmps146
   go_upto_region 3 with fail
   go_cut [] (fun wc => Cs wc cb n (colOf U1) S ∧ Fr (Xc S) w wc ∧ wc.cell? ⟨w.heap.size, 0, none⟩ = some (.int .i64 x) ∧ wc.cell? ⟨w.heap.size, 1, none⟩ = some (.int .i64 y) ∧ wc.cell? ⟨w.heap.size, 2, none⟩ = some (.int .i64 d) ∧ wc.cell? ⟨w.heap.size, 3, none⟩ = some (.int .i64 (A : Int)) ∧ wc.cell? ⟨w.heap.size, 4, none⟩ = some (.pointer (some ⟨cb, 0, none⟩)) ∧ wc.cell? ⟨w.heap.size, 5, none⟩ = some (.int .i64 (B : Int)) ∧ wc.cell? ⟨w.heap.size, 6, none⟩ = some (.pointer (some ⟨cb, 0, none⟩)) ∧ w.heap.size < wc.heap.size)
   case first =>
    clear esb1 mA1 mB1 r8A r8B oB1
    refine wp_region_held_drew (S := fun w' => w'.cell? ⟨w.heap.size, 0, none⟩ = some (.int .i64 x) ∧ w'.cell? ⟨w.heap.size, 1, none⟩ = some (.int .i64 y) ∧ w'.cell? ⟨w.heap.size, 2, none⟩ = some (.int .i64 d) ∧ w'.cell? ⟨w.heap.size, 3, none⟩ = some (.int .i64 (A : Int)) ∧ w'.cell? ⟨w.heap.size, 4, none⟩ = some (.pointer (some ⟨cb, 0, none⟩)) ∧ w'.cell? ⟨w.heap.size, 5, none⟩ = some (.int .i64 (B : Int)) ∧ w'.cell? ⟨w.heap.size, 6, none⟩ = some (.pointer (some ⟨cb, 0, none⟩))) (by kernel_rfl) ?_ (fun hHeld => ?_)
    · (try dsimp only)
      (first | (go_simp; done) | (go_keep; done))
    refine tq 0 hHeld ?_
    refine tq 1 hHeld ?_
    refine tq 2 hHeld ?_
    refine tq 3 hHeld ?_
    refine tq 4 hHeld ?_
    refine tq 6 hHeld ?_
    refine tq 7 hHeld ?_
    refine tq 8 hHeld ?_
    refine tq 9 hHeld ?_
    refine tq 10 hHeld ?_
    (refine tc 5 fun K hK => ?_; go_simp; (go_at_call 155; refine (opp_z _ _ _ (by omega) (by omega)).mono ?_; rintro e w1 ⟨rfl, hb1⟩; have hz1 := hb1.size; (try simp only [zz] at hz1); have := kfa hb1 w.heap.size); (try go_wp2_with fail); refine tr hK (fun hHeld => ?_); clear hK K)
    (refine tc 11 fun K hK => ?_; go_simp; (go_at_call 159; refine (kShare (hA0.below (bel_a)) (hB0.below (bel_a)) _ _ (by omega) (by omega) (by omega) (by with_reducible assumption)).mono ?_; rintro e w2 ⟨rfl, hb2⟩; have hz2 := hb2.size; (try simp only [zz] at hz2); have := kfa hb2 w.heap.size); (try go_wp2_with fail); refine tr hK (fun hHeld => ?_); clear hK K)
    (refine tc 12 fun K hK => ?_; go_simp; (go_at_call 158; refine (wayTimes_z _ _ _ _ _ _ (by omega) (by omega) (by omega) (by with_reducible assumption) (by with_reducible assumption)).mono ?_; rintro e w3 ⟨rfl, hb3⟩; have hz3 := hb3.size; (try simp only [zz] at hz3); have := kfa hb3 w.heap.size); (try go_wp2_with fail); refine tr hK (fun hHeld => ?_); clear hK K)
    (refine tc 13 fun K hK => ?_; go_simp; (go_at_call 126; refine (kMoveU (h.below (bel_a)) hAn hn oA.a4 oA.a5 _ _ (by omega) (by omega)).mono ?_; rintro e w4 ⟨rfl, hr4, hF4⟩; have hk4 := fun o => hF4.cell (p := ⟨w.heap.size, o, none⟩) (by first | omega | (simp; done) | (simp; omega)) (hx _ (Nat.le_refl _)); have hz4 := hF4.size; (try simp only [zz] at hz4)); (try go_wp2_with fail); refine tr hK (fun hHeld => ?_); clear hK K)
    refine wpAnyH_done (by kernel_rfl) ?_ _
    go_wp2_with fail
    go_meet
    exact ⟨(by rw [← eU1]; exact hr4), (Fr.of_below (bel_a)).trans hF4, (by go_simp), (by go_simp), (by go_simp), (by go_simp), (by go_simp), (by go_simp), (by go_simp), (by first | omega | (simp; done) | (simp; omega))⟩
   case rest =>
   obtain ⟨hC, hF, k0, k1, k2, k3, k4, k5, k6, hl⟩ := hcut
   have hA1 : HAt wc cb n A (fun j => U1 (A * 12 + j)) (gOf S) := hC.hat hAn hn
   have hB1 : HAt wc cb n B (fun j => U1 (B * 12 + j)) (gOf S) := hC.hat hBn hn
   have hx1 : ∀ b, wc.heap.size ≤ b → ¬ Xc S b := fun b hb x => by have := (hC.xlt x).2; omega
   have l2 := hA1.cbl
   clear eU1
   go_upto_region 4 with fail
   refine wp_region_held_drew (S := fun w' => w'.cell? ⟨w.heap.size, 0, none⟩ = some (.int .i64 x) ∧ w'.cell? ⟨w.heap.size, 1, none⟩ = some (.int .i64 y) ∧ w'.cell? ⟨w.heap.size, 2, none⟩ = some (.int .i64 d) ∧ w'.cell? ⟨w.heap.size, 3, none⟩ = some (.int .i64 (A : Int)) ∧ w'.cell? ⟨w.heap.size, 4, none⟩ = some (.pointer (some ⟨cb, 0, none⟩)) ∧ w'.cell? ⟨w.heap.size, 5, none⟩ = some (.int .i64 (B : Int)) ∧ w'.cell? ⟨w.heap.size, 6, none⟩ = some (.pointer (some ⟨cb, 0, none⟩))) (by kernel_rfl) ?_ (fun hHeld => ?_)
   · (try dsimp only)
     (first | (go_simp; done) | (go_keep; done))
   refine tq 0 hHeld ?_
   refine tq 1 hHeld ?_
   refine tq 2 hHeld ?_
   refine tq 3 hHeld ?_
   refine tq 4 hHeld ?_
   refine tq 5 hHeld ?_
   refine tq 6 hHeld ?_
   refine tq 7 hHeld ?_
   refine tq 8 hHeld ?_
   refine tq 9 hHeld ?_
   (refine tc 10 fun K hK => ?_; go_simp; (go_at_call 159; refine (kShare (hB1.below (bel_a)) (hA1.below (bel_a)) _ _ (by omega) (by omega) (by omega) (by with_reducible assumption)).mono ?_; rintro e w12 ⟨rfl, hb12⟩; have hz12 := hb12.size; (try simp only [zz] at hz12); have := kfa hb12 w.heap.size); (try go_wp2_with fail); refine tr hK (fun hHeld => ?_); clear hK K)
   (refine tc 11 fun K hK => ?_; go_simp; (go_at_call 158; refine (wayTimes_z _ _ _ _ _ _ (by omega) (by omega) (by omega) (by with_reducible assumption) (by with_reducible assumption)).mono ?_; rintro e w13 ⟨rfl, hb13⟩; have hz13 := hb13.size; (try simp only [zz] at hz13); have := kfa hb13 w.heap.size); (try go_wp2_with fail); refine tr hK (fun hHeld => ?_); clear hK K)
   (refine tc 12 fun K hK => ?_; go_simp; (go_at_call 126; refine (kMoveU (hC.below (bel_a)) hBn hn oB1.1 oB1.2 _ _ (by omega) (by omega)).mono ?_; rintro e w14 ⟨rfl, hr14, hF14⟩; have hk14 := fun o => hF14.cell (p := ⟨w.heap.size, o, none⟩) (by first | omega | (simp; done) | (simp; omega)) (hx _ (Nat.le_refl _))); (try go_wp2_with fail); refine tr hK (fun hHeld => ?_); clear hK K)
   refine wpAnyH_done (by kernel_rfl) ?_ _
   go_wp2_with fail
   go_end0
   exact ⟨rfl, hr14, (hF.trans (Fr.of_below (bel_a))).trans hF14⟩
 · have hmn : m ≤ 0 := by omega
   have e0 : apartU U A B x y d = U := by unfold apartU; rw [em, decide_eq_false hm]; rfl
   rw [e0]
   go_enter Tryz.func146, Tryz.ntmps146
   go_wp2_with fail
   refine bodyPost_ret (results_none rfl _ _ _) rfl ?_
   exact ⟨rfl, h.below (bel_a), Fr.of_below (bel_a)⟩
theorem goApart {w : World} {rb g m c cb n : Nat} {C U : Nat → Int} {S : Nat → Value} (hR0 : Rg w rb g m c cb C 0) (hC0 : Cs w cb n (colOf U) S) (hm : m ≤ 1048576) (hn : n ≤ 1048576) (hbb : Bods n U) (ct : CtOk n m C) (hrb : ¬ Xc S rb) (hg : ¬ Xc S g) (hcb : ¬ cb = rb) :
 Calls Tryz.prog 142 #[.pointer (some ⟨rb, 0, none⟩), (.func (.func 146) #[] #[])] w fun e w' => e = .returned (.tuple #[]) ∧ Cs w' cb n (colOf (apartN C U m)) S ∧ Fr (fun b => Xc S b ∨ b = rb) w w' := by
 have hset := cset_map
 have hxr : ∀ b, Xc S b → ¬ b = rb := fun b hb e => hrb (e ▸ hb)
 have c0 := hR0.c0
 go_enter Tryz.func142, Tryz.ntmps142
 go_upto_region 1 with fail
 go_loopw [9] (fun s wr => ∃ k : Nat, k ≤ m ∧ s = .int .i64 (k : Int) ∧ Rg wr rb g m c cb C (k % m) ∧ Cs wr cb n (colOf (apartN C U k)) S ∧ Fr (fun b => Xc S b ∨ b = rb) w wr) (fun s _ => m - (intOf s).toNat)
 case atStart => exact ⟨0, Nat.zero_le _, rfl, by rw [Nat.zero_mod]; exact hR0, hC0, Fr.refl _ _⟩
 case round =>
  clear hR0 hC0 c0
  obtain ⟨k, hk, rfl, hR, hC, hF⟩ := hrel
  by_cases hlt : k < m
  · have hkm : (k : Int) < (m : Int) := by omega
    rw [Nat.mod_eq_of_lt hlt] at hR
    have ca := ct.a k hlt
    have cb_ := ct.b k hlt
    have cn := ct.ne k hlt
    have cx := ct.x k hlt
    have cy := ct.y k hlt
    have cd := ct.d k hlt
    have hB := (hbb.aparts ct k hk).1
    have HN : Shut (apartN C U (k + 1) = apartU (apartN C U k) (C (k * 5)).toNat (C (k * 5 + 1)).toNat (C (k * 5 + 2)) (C (k * 5 + 3)) (C (k * 5 + 4))) := by show _ = _; rw [apartN]
    obtain ⟨A, hA⟩ : ∃ A : Nat, C (k * 5) = (A : Int) := ⟨(C (k * 5)).toNat, by omega⟩
    obtain ⟨B, hBB⟩ : ∃ B : Nat, C (k * 5 + 1) = (B : Int) := ⟨(C (k * 5 + 1)).toNat, by omega⟩
    rw [hA, hBB, Int.toNat_natCast, Int.toNat_natCast] at HN
    rw [hA] at ca cn
    rw [hBB] at cb_ cn
    go_wp2_with (first
  | (go_at_call 146; refine (mApart _ _ _ (hC.frame hF4 hcb hxr) hn (by omega) (by omega) (by omega) (hB.row (by omega)) (hB.row (by omega)) cx cy cd).mono ?_; rintro e w5 ⟨rfl, hC5, hF5⟩)
  | (go_at_call 153; refine (take_q (j := k) hR hlt hm _ _ _ _ _ rfl rfl rfl hA hBB).mono ?_; rintro e w4 ⟨rfl, hR4, hF4⟩))
    have hF9 : Fr (fun b => Xc S b ∨ b = rb) w w5 := (hF.trans (hF4.mono fun _ _ e => .inr e)).trans (hF5.mono fun _ _ e => .inl e)
    have hR9 := hR4.fr hF5 hrb hg
    go_roundw
    case rel => exact ⟨k + 1, by omega, by go_num, hR9, by rw [HN.out]; exact hC5, hF9⟩
    case measure => simp [intOf]; omega
  · obtain rfl : k = m := by omega
    go_wp2_with fail
    go_end0
    exact ⟨rfl, hC, hF⟩
theorem goApart0 {w : World} {rb c : Nat} (c0 : w.cell? ⟨rb, 0, none⟩ = some (.slice none 0 c)) :
 Calls Tryz.prog 142 #[.pointer (some ⟨rb, 0, none⟩), (.func (.func 146) #[] #[])] w fun e w' => e = .returned (.tuple #[]) ∧ w' = w := by
 go_enter Tryz.func142, Tryz.ntmps142
 go_upto_region 1 with fail
 refine wp_loop_rounds 1 ?_
 rw [rounds_succ]
 go_wp2_with fail
 go_end0
 exact ⟨rfl, rfl⟩
theorem moveApart_q {w : World} {rb g m c cb n : Nat} {C U : Nat → Int} {S : Nat → Value} (hR0 : Rg w rb g m c cb C 0) (hC0 : Cs w cb n (colOf U) S) (hm : m ≤ 1048576) (hn : n ≤ 1048576) (hbb : Bods n U) (ct : CtOk n m C) (hrb : ¬ Xc S rb) (hg : ¬ Xc S g) (hcb : ¬ cb = rb) :
 Calls Tryz.prog 128 #[.pointer (some ⟨rb, 0, none⟩)] w fun e w' => e = .returned (.tuple #[]) ∧ Cs w' cb n (colOf (apartN C U m)) S ∧ Fr (fun b => Xc S b ∨ b = rb) w w' := by
 go_enter Tryz.func128, Tryz.ntmps128
 go_wp2_with (go_at_call 142; refine (goApart hR0 hC0 hm hn hbb ct hrb hg hcb).mono ?_; rintro e w1 ⟨rfl, h1, h2⟩)
 go_end0
 exact ⟨rfl, h1, h2⟩
theorem moveApart_0 {w : World} {rb c : Nat} (c0 : w.cell? ⟨rb, 0, none⟩ = some (.slice none 0 c)) :
 Calls Tryz.prog 128 #[.pointer (some ⟨rb, 0, none⟩)] w fun e w' => e = .returned (.tuple #[]) ∧ w' = w := by
 go_enter Tryz.func128, Tryz.ntmps128
 go_wp2_with (go_at_call 142; refine (goApart0 c0).mono ?_; rintro e w1 ⟨rfl, rfl⟩)
 go_end0
 exact ⟨rfl, rfl⟩
end Go.Proofs.YtmnhankcbkfhaaaGreatDoor
