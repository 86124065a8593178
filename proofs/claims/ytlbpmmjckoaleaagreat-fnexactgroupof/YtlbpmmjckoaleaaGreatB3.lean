/- Texts of a proof. -/
import Derived.Test.YtlbpmmjckoaleaaGreatB1
import Derived.Test.YtlbpmmjckoaleaaGreatB2
import Derived.RangeFuncBound
import Derived.Deep.RegionHeld3
import Derived.Test.YtlbpmmjckoaleaaGreatRows
import Derived.WalkKit
import Derived.WalkSpells
import Derived.WalkLawsBesides
set_option maxHeartbeats 16000000
set_option maxRecDepth 20000
namespace Go.Proofs.YtlbpmmjckoaleaaGreat
open Go.RowKit
set_option linter.unusedVariables false
structure Kx (B H : Nat) (A A' : World) : Prop where
  below : Below B A A'
  cells : ∀ (k : Nat) (o : Obj), A.heap[k]? = some o → o.isCells = true → H ≤ k → A'.heap[k]? = some o
structure Kc (B H : Nat) (A A' : World) : Prop where
  others : KeepsFrom B A A'
  band : ∀ (k : Nat) (o : Obj), B ≤ k → k < H → A.heap[k]? = some o → o.isCells = true → A'.heap[k]? = some o
theorem Kx.refl (B H : Nat) (A : World) : Kx B H A A := ⟨Below.refl _ _, fun _ _ h _ _ => h⟩
theorem Kx.trans {B H : Nat} {X Y Z : World} (h : Kx B H X Y) (k : Kx B H Y Z) : Kx B H X Z := ⟨h.below.trans k.below, fun i o hi ho hH => k.cells i o (h.cells i o hi ho hH) ho hH⟩
theorem Kx.size {B H : Nat} {X Y : World} (h : Kx B H X Y) : X.heap.size ≤ Y.heap.size := h.below.size
theorem Kx.sm {B H B' : Nat} {X Y Z : World} (h : Kx B H X Y) (k : Sm B' Y Z) (hB : B ≤ B') : Kx B H X Z := ⟨h.below.trans (k.below.mono hB), fun i o hi ho hH => k.cells i o (h.cells i o hi ho hH) ho⟩
theorem Kx.of_sm {B H B' : Nat} {X Y : World} (k : Sm B' X Y) (hB : B ≤ B') : Kx B H X Y := (Kx.refl B H X).sm k hB
theorem Kx.fr {B H : Nat} {X Y Z : World} {T : Nat → Prop} (h : Kx B H X Y) (k : Fr T Y Z) (hT : ∀ b, T b → B ≤ b ∧ (b < H ∨ X.heap.size ≤ b)) (hB : B ≤ X.heap.size) : Kx B H X Z :=
  ⟨h.below.trans (k.below (Nat.le_trans hB h.size) (fun b e => (hT b e).1)), fun i o hi ho hH => by
    have hl : i < X.heap.size := (Array.getElem?_eq_some_iff.1 hi).1
    exact (k.block i (Nat.lt_of_lt_of_le hl h.size) (fun e => by have := (hT i e).2; omega)).trans (h.cells i o hi ho hH)⟩
theorem Kx.of_below {B H : Nat} {X Y : World} (k : Below X.heap.size X Y) (hB : B ≤ X.heap.size) : Kx B H X Y :=
  ⟨k.mono hB, fun i o hi _ _ => (k.block i (Array.getElem?_eq_some_iff.1 hi).1).trans hi⟩
theorem Kc.refl (B H : Nat) (A : World) : Kc B H A A := ⟨KeepsFrom.refl _ _, fun _ _ _ _ h _ => h⟩
theorem Kc.trans {B H : Nat} {X Y Z : World} (h : Kc B H X Y) (k : Kc B H Y Z) : Kc B H X Z := ⟨h.others.trans k.others, fun i o a b c d => k.band i o a b (h.band i o a b c d) d⟩
theorem Kc.fr {B H : Nat} {X Y : World} {T : Nat → Prop} (k : Fr T X Y) (hT : ∀ b, T b → b < B ∨ H ≤ b) : Kc B H X Y :=
  ⟨k.keeps B, fun i o hB hH hi ho => (k.block i (Array.getElem?_eq_some_iff.1 hi).1 (fun e => by have := hT i e; omega)).trans hi⟩
theorem Kc.of_below {B H : Nat} {X Y : World} (k : Below X.heap.size X Y) : Kc B H X Y := Kc.fr (T := fun _ => False) (Fr.of_below k) (fun _ h => h.elim)
theorem Kc.putObj {B H l : Nat} {X : World} (o : Obj) (h : l < B) : Kc B H X (X.putObj l o) :=
  ⟨⟨by simp [World.putObj], fun k x hk hx _ => (World.putObj_heap_other (by omega)).trans hx⟩, fun k x hB _ hx _ => (World.putObj_heap_other (by omega)).trans hx⟩
theorem Kc.cell {B H : Nat} {X Y : World} (h : Kc B H X Y) {p : Addr} {v : Value} (hc : X.cell? p = some v) (h1 : B ≤ p.block) (h2 : p.block < H) : Y.cell? p = some v := by
  obtain ⟨o, ho, hx⟩ := isCells_of_cell hc
  exact (World.cell?_of_block ((h.band _ _ h1 h2 ho hx).trans ho.symm)).trans hc
def ItG (P : Program) (gf : Nat) (bound : Array Value) (Col : World → Prop) (E : Nat → Nat → Array Value → World → Prop) (nn : Nat) (w : World) : Prop :=
  ∀ (l : Nat) (J : Nat → Nat → World → Prop) (W : World), Below w.heap.size w W →
    (∀ H k A A', J H k A → Kx W.heap.size H A A' → J H k A') → (∀ H k A, J H k A → Col A) →
    (∀ W0, Below W.heap.size W W0 → J W0.heap.size 0 W0) →
    (∀ H k A args, J H k A → k < nn → E H k args A → YieldAt Fence.wide 0 P l args A fun e A' => e = .returned (.bool true) ∧ J H (k + 1) A' ∧ Kc W.heap.size H A A') →
    CallsIn Fence.wide 0 P gf (bound ++ #[.func (.yield l) #[] #[]]) W fun e A => (∃ v, e = .returned v) ∧ ∃ H, J H nn A
theorem yield_roundG {P : Program} {ps : Array Tmp} {assign body : Code} {a : Act} {B l dl : Nat} {fn : FuncId} {args : Array Value} (hps : args.size = ps.size)
    {I' : World → Prop} (hI' : ∀ A r o, I' A → A.heap[l]? = some (.loop r) → I' (A.putObj l (.loop o))) {Hh : World → Prop} (hH : ∀ A B', Hh A → KeepsFrom B A B' → Hh B') (hHp : ∀ A o, Hh A → Hh (A.putObj l o))
    {rec : LoopState → Option Code → Loop} (hrec : rec = fun st pe => { state := st, pending := pe, fn, tmps := a.tmps, params := ps, assign, body, defers := dl }) (hBl : B ≤ l)
    {W : World} (hl : W.heap[l]? = some (.loop (rec .ready none))) (hh : Hh W)
    (hround : assign.wpIn (Fence.wide.inRound l) 0 P (Exit.then (fun a₁ W₁ => KeepsFrom B W W₁ ∧ ∀ W₂, Sm B W₁ W₂ → (∀ B' H', l < B' → Kc B' H' W₁ W₂) → (∃ r, W₂.heap[l]? = some (.loop r)) → body.wpIn (Fence.wide.inRound l) 0 P (rdPost B I' (fun _ _ => False) W₂) a₁ W₂) (fun _ _ _ => False))
      { tmps := (ps.zip args).foldl (fun t (p, v) => t.setIfInBounds p v) a.tmps, defers := [] } W) :
    YieldAt Fence.wide 0 P l args W fun e W' => e = .returned (.bool true) ∧ I' W' ∧ W'.heap[l]? = some (.loop (rec .ready none)) ∧ Hh W' := by
  have hy := run_yield (P := P) (args := args) hl (by rw [hrec]; exact hps)
  rw [hrec] at hy
  refine ⟨fn, _, assign, body, hy, roundIn_of_wpIn trivial (wpIn_mono hround ?_)⟩
  intro e a₁ W₁ q
  cases e with
  | normal =>
    obtain ⟨hk1, hb⟩ := q
    have hl1 := hk1.same _ _ hBl hl rfl
    have hh1 := hH _ _ hh hk1
    refine ⟨_, run_beginRound hl1 (by rw [hrec]), ?_⟩
    have hlt : l < W₁.heap.size := (Array.getElem?_eq_some_iff.1 hl1).1
    have hl2 : (W₁.putObj l (.loop { rec .ready none with state := .busy })).heap[l]? = some (.loop { rec .ready none with state := .busy }) := World.putObj_heap_same hlt
    refine wpIn_mono (hb _ (Sm.putObj _ hl1 rfl hBl) (fun B' H' h => Kc.putObj _ h) ⟨_, hl2⟩) ?_
    rintro e a3 W3 hp
    cases e with
    | normal =>
      obtain ⟨hk3, hi3⟩ := hp
      have hl3 := hk3.same _ _ hBl hl2 rfl
      have hr := run_endRound (P := P) none hl3
      have hr' : (Instr.endRound l none).run P W3 = .ok (.bool true) (W3.putObj l (.loop (rec .ready none))) := by rw [hrec] at hr ⊢; exact hr
      exact ⟨_, _, hr', rfl, hI' _ _ _ hi3 hl3, World.putObj_heap_same (Array.getElem?_eq_some_iff.1 hl3).1, hHp _ _ (hH _ _ (hHp _ _ hh1) hk3)⟩
    | ret => exact hp.2.elim
    | exit id => exact hp.2.elim
    | goto t => exact hp.2.elim
    | panic ch => exact hp.elim
    | outgrown => exact hp.elim
  | exit id => exact q.elim
  | goto t => exact q.elim
  | ret => exact q.elim
  | panic ch => exact q.elim
  | outgrown => exact q.elim
theorem wp_range_outG {P : Program} {g : Operand} {ps : Array Tmp} {assign body : Code} {Q : Exit → Act → World → Prop} {a : Act} {w : World} {gf : Nat} {bound : Array Value}
    (hg : a.eval g = .func (.func gf) bound #[]) (eg : ∀ args w, (callFunc gf args).run P w = .ok (.enter gf args) w)
    {Col : World → Prop} {E : Nat → Nat → Array Value → World → Prop} {nn : Nat} (hit : ItG P gf bound Col E nn w) (hps : ∀ H k args A, E H k args A → args.size = ps.size)
    (I : Nat → Nat → World → Prop) (hI : ∀ H k A B, I H k A → Kx (w.heap.size + 2) H A B → I H k B) (hIs : ∀ H k A B, I H k A → Sm w.heap.size A B → I H k B) (hcol : ∀ H k A, I H k A → Col A)
    (h0 : ∀ W0, Below w.heap.size w W0 → w.heap.size + 2 ≤ W0.heap.size → I W0.heap.size 0 W0)
    (hround : ∀ l H k W args, w.heap.size ≤ l → l < w.heap.size + 2 → w.heap.size + 2 ≤ W.heap.size → I H k W → k < nn → E H k args W →
      assign.wpIn (Fence.wide.inRound l) 0 P (Exit.then (fun a₁ W₁ => KeepsFrom w.heap.size W W₁ ∧ ∀ W₂, Sm w.heap.size W₁ W₂ → (∀ B' H', l < B' → Kc B' H' W₁ W₂) → (∃ r, W₂.heap[l]? = some (.loop r)) →
        body.wpIn (Fence.wide.inRound l) 0 P (rdPost w.heap.size (fun W' => I H (k + 1) W' ∧ Kc (w.heap.size + 2) H W W') (fun _ _ => False) W₂) a₁ W₂) (fun _ _ _ => False))
      { tmps := (ps.zip args).foldl (fun t (p, v) => t.setIfInBounds p v) a.tmps, defers := [] } W)
    (hdone : ∀ (D H : Nat) (W : World), w.heap.size ≤ D → I H nn W → W.heap[D]? = some (.deferred (some [])) → Q .normal { a with defers := { target := .collected D, args := #[] } :: a.defers } W) :
    (Code.rangeFunc g ps assign body).wp P Q a w := by
  refine wpIn_wide.1 (wpIn_rangeFunc (n := 0) ?_)
  intro fn _
  obtain ⟨rec, hrec⟩ : ∃ rec : LoopState → Option Code → Loop, rec = fun st pe => { state := st, pending := pe, fn, tmps := a.tmps, params := ps, assign, body, defers := w.heap.size } := ⟨_, rfl⟩
  obtain ⟨W1, hW1⟩ : ∃ W1, (w.alloc (.deferred (some []))).alloc (.loop (rec .ready none)) = W1 := ⟨_, rfl⟩
  have hb1 : Below w.heap.size w W1 := by rw [← hW1]; exact ((Below.refl _ w).alloc (Nat.le_refl _) _).alloc (by simp) _
  have hz1 : W1.heap.size = w.heap.size + 2 := by rw [← hW1]; simp
  have hL1 : W1.heap[w.heap.size + 1]? = some (.loop (rec .ready none)) := by
    rw [← hW1]; have := World.alloc_heap_new (w.alloc (.deferred (some []))) (.loop (rec .ready none)); rwa [World.size_alloc] at this
  have hK1 : W1.heap[w.heap.size]? = some (.deferred (some [])) := by
    rw [← hW1]; exact (Below.heap_alloc _ _ _ (by simp)).trans (World.alloc_heap_new w _)
  refine ⟨w.heap.size + 1, [{ target := .collected w.heap.size, args := #[] }], W1, { target := .fn (.func gf) #[], args := bound ++ #[.func (.yield (w.heap.size + 1)) #[] #[]] }, W1, gf,
    bound ++ #[.func (.yield (w.heap.size + 1)) #[] #[]], W1, ?_, ?_, fun _ _ => trivial, ?_, (fun e => by cases e), ?_⟩
  · rw [← hW1, hrec]; exact run_enterLoop_outer _ _ _ _ _
  · simp only [resolve, hg]
    simp [go_sem]
  · simp [invoke, go_sem, eg]
  · refine (hit (w.heap.size + 1)
      (fun H k W => I H k W ∧ W.heap[w.heap.size + 1]? = some (.loop (rec .ready none)) ∧ W.heap[w.heap.size]? = some (.deferred (some [])) ∧ w.heap.size + 2 ≤ W.heap.size)
      W1 hb1 ?_ ?_ ?_ ?_).mono ?_
    · rintro H k A B ⟨h1, h2, h3, h4⟩ hb
      rw [hz1] at hb
      exact ⟨hI _ _ _ _ h1 hb, (hb.below.block _ (by omega)).trans h2, (hb.below.block _ (by omega)).trans h3, Nat.le_trans h4 hb.size⟩
    · rintro H k A ⟨h1, _⟩
      exact hcol _ _ _ h1
    · intro W0 hb
      exact ⟨h0 W0 (hb1.trans (hb.mono (by omega))) (by have := hb.size; omega), (hb.block _ (by omega)).trans hL1, (hb.block _ (by omega)).trans hK1, by have := hb.size; omega⟩
    · rintro H k W args ⟨h1, h2, h3, h4⟩ hk hE
      rw [hz1]
      refine (yield_roundG (P := P) (ps := ps) (assign := assign) (body := body) (a := a) (B := w.heap.size) (l := w.heap.size + 1) (dl := w.heap.size) (fn := fn) (args := args) (hps _ _ _ _ hE)
        (I' := fun W' => I H (k + 1) W' ∧ Kc (w.heap.size + 2) H W W') (fun A r o h hl => ⟨hIs _ _ _ _ h.1 (Sm.putObj _ hl rfl (by omega)), h.2.trans (Kc.putObj _ (by omega))⟩)
        (Hh := fun W => W.heap[w.heap.size]? = some (.deferred (some [])) ∧ w.heap.size + 2 ≤ W.heap.size) (fun A B h hk => ⟨hk.same _ _ (Nat.le_refl _) h.1 rfl, Nat.le_trans h.2 hk.size⟩) (fun A o h => ⟨(World.putObj_heap_other (by omega)).trans h.1, by simpa [World.putObj] using h.2⟩) hrec (by omega) h2 ⟨h3, h4⟩
        (hround _ H k W args (by omega) (by omega) h4 h1 hk hE)).mono ?_
      rintro e W' ⟨e1, ⟨h1, hc⟩, h2, h3, h4⟩
      exact ⟨e1, ⟨h1, h2, h3, h4⟩, hc⟩
    · rintro e W2 ⟨⟨v, rfl⟩, H, hi, hl, hk, _⟩
      exact ⟨none, _, by have := run_endLoop (P := P) hl (by rw [hrec]; simp); rw [hrec] at this; exact this, hdone _ H _ (Nat.le_refl _) (hIs _ _ _ _ hi (Sm.putObj _ hl rfl (by omega))) ((World.putObj_heap_other (by omega)).trans hk)⟩
end Go.Proofs.YtlbpmmjckoaleaaGreat
namespace Go.Proofs.YtlbpmmjckoaleaaGreat
open Go.RowKit
set_option linter.unusedVariables false
section
variable {P : Program} {md : Region.Mode} {ops : Array Oper} {Q : Exit → Act → World → Prop} {S : World → Prop}
theorem tq (i : Nat) {o1 o2 o3 o4 o5 o6} {v : Value} {fuel : Nat} {listed : Array Bool} {a a' : Act} {w : World} (hS : S w)
    (h : wpAnyH P md ops Q S fuel (listed.setIfInBounds i true) a' w)
    (hi : ops[i]? = some (Oper.mk o1 o2 o3 o4 o5 o6) := by rfl)
    (hc : (Region.noSelect ops && (Region.free md ops listed i && (Region.ready md ops listed).contains i)) = true := by kernel_rfl)
    (hQ : ∀ c a w, Q (.panic c) (a.put (Oper.mk o1 o2 o3 o4 o5 o6).dst v) w → Q (.panic c) a w := by exact fun _ _ _ h => h)
    (hw : Region.wanted (Oper.mk o1 o2 o3 o4 o5 o6) (yielded ops a.tmps) = true := by rfl)
    (hv : ∀ w, S w → (execOp a.eval (Oper.mk o1 o2 o3 o4 o5 o6)).run P w = .ok (.value v) w := by (intro w s; (try dsimp only at s); go_simp; (try with_reducible rfl)))
    (he : a.put (Oper.mk o1 o2 o3 o4 o5 o6).dst v = a' := by ((try simp only [Act.put, List.setIfInBounds_toArray, List.set_cons_zero, List.set_cons_succ]); (try with_reducible rfl))) :
    wpAnyH P md ops Q S (fuel + 1) listed a w := by
  subst he
  simp only [Bool.and_eq_true] at hc
  exact wpAnyH_take hi hc.1 hc.2.1 hc.2.2 hQ (.inl ⟨hw, hv⟩) hS h
theorem tn (i : Nat) {o1 o2 o3 o4 o5 o6} {fuel : Nat} {listed : Array Bool} {a a' : Act} {w : World} (hS : S w)
    (h : wpAnyH P md ops Q S fuel (listed.setIfInBounds i true) a' w)
    (hi : ops[i]? = some (Oper.mk o1 o2 o3 o4 o5 o6) := by rfl)
    (hc : (Region.noSelect ops && (Region.free md ops listed i && (Region.ready md ops listed).contains i)) = true := by kernel_rfl)
    (hQ : ∀ c a w, Q (.panic c) (a.put (Oper.mk o1 o2 o3 o4 o5 o6).dst undef) w → Q (.panic c) a w := by exact fun _ _ _ h => h)
    (hw : Region.wanted (Oper.mk o1 o2 o3 o4 o5 o6) (yielded ops a.tmps) = false := by rfl)
    (he : a.put (Oper.mk o1 o2 o3 o4 o5 o6).dst undef = a' := by ((try simp only [Act.put, List.setIfInBounds_toArray, List.set_cons_zero, List.set_cons_succ]); (try with_reducible rfl))) :
    wpAnyH P md ops Q S (fuel + 1) listed a w := by
  subst he
  simp only [Bool.and_eq_true] at hc
  exact wpAnyH_take hi hc.1 hc.2.1 hc.2.2 hQ (.inr ⟨hw, rfl⟩) hS h
end
section
variable {P : Program} {md : Region.Mode} {ops : Array Oper} {Q : Exit → Act → World → Prop} {S : World → Prop}
theorem tc (i : Nat) {o1 o2 o3 o4 o5 o6} {fuel : Nat} {listed : Array Bool} {a : Act} {w : World}
    (h : ∀ K' : Act → World → Prop, Shut (∀ a w, S w → (S w → wpAnyH P md ops Q S fuel (listed.setIfInBounds i true) a w) → K' a w) → if Region.wanted (Oper.mk o1 o2 o3 o4 o5 o6) (yielded ops a.tmps) = true then Oper.wp P (Oper.mk o1 o2 o3 o4 o5 o6) a w K' Q else K' (a.put (Oper.mk o1 o2 o3 o4 o5 o6).dst undef) w)
    (hr : Region.ready md ops listed = [i] := by kernel_rfl)
    (hi : ops[i]? = some (Oper.mk o1 o2 o3 o4 o5 o6) := by rfl) :
    wpAnyH P md ops Q S (fuel + 1) listed a w := wpAnyH_ready hr (by simp) (AllReadyH.cons hi h AllReadyH.nil)
theorem tr {K : Act → World → Prop} {fuel : Nat} {listed : Array Bool} (hK : Shut (∀ a w, S w → (S w → wpAnyH P md ops Q S fuel listed a w) → K a w)) {a a' : Act} {w : World}
    (h : S w → wpAnyH P md ops Q S fuel listed a' w)
    (hS : S w := by ((try dsimp only); (first | (go_simp; done) | (go_keep; done))))
    (he : a = a' := by ((try simp only [Act.put, List.setIfInBounds_toArray, List.set_cons_zero, List.set_cons_succ]); (try with_reducible rfl))) : K a w := by
  subst he
  exact hK.out _ _ hS h
end
end Go.Proofs.YtlbpmmjckoaleaaGreat
namespace Go.Proofs.YtlbpmmjckoaleaaGreat
open Go.RowKit
set_option linter.unusedVariables false
section
variable {P : Program} {md : Region.Mode} {ops : Array Oper} {Q : Exit → Act → World → Prop} {S : World → Prop}
theorem td (i j : Nat) {o1 o2 o3 o4 o5 o6 p1 p2 p3 p4 p5 p6} {v u : Value} {fuel : Nat} {listed : Array Bool} {a a' : Act} {w w1 : World} (hS : S w)
    (h : S w1 → wpAnyH P md ops Q S fuel ((listed.setIfInBounds i true).setIfInBounds j true) a' w1)
    (hr : (Region.ready md ops listed = [i, j] ∧ Region.ready md ops (listed.setIfInBounds i true) = [j] ∧ Region.ready md ops (listed.setIfInBounds j true) = [i]) := by exact ⟨by kernel_rfl, by kernel_rfl, by kernel_rfl⟩)
    (hi : ops[i]? = some (Oper.mk o1 o2 o3 o4 o5 o6) := by rfl) (hj : ops[j]? = some (Oper.mk p1 p2 p3 p4 p5 p6) := by rfl)
    (hc : (Region.noSelect ops && ((Oper.mk o1 o2 o3 o4 o5 o6).apart ops (Oper.mk p1 p2 p3 p4 p5 p6) && (i != j))) = true := by kernel_rfl)
    (wi : Region.wanted (Oper.mk o1 o2 o3 o4 o5 o6) (yielded ops a.tmps) = true := by rfl) (wj : Region.wanted (Oper.mk p1 p2 p3 p4 p5 p6) (yielded ops a.tmps) = true := by rfl)
    (vi : (execOp a.eval (Oper.mk o1 o2 o3 o4 o5 o6)).run P w = .ok (.value v) w := by (go_simp; (try with_reducible rfl)))
    (vj : (execOp a.eval (Oper.mk p1 p2 p3 p4 p5 p6)).run P w = .ok (.value u) w1 := by (go_simp; (first | done | exact ⟨rfl, rfl⟩ | with_reducible rfl)))
    (vi1 : (execOp a.eval (Oper.mk o1 o2 o3 o4 o5 o6)).run P w1 = .ok (.value v) w1 := by (go_simp; (try with_reducible rfl)))
    (hS1 : S w1 := by ((try dsimp only); (first | (go_simp; done) | (go_keep; done))))
    (he : (a.put (Oper.mk o1 o2 o3 o4 o5 o6).dst v).put (Oper.mk p1 p2 p3 p4 p5 p6).dst u = a' := by ((try simp only [Act.put, List.setIfInBounds_toArray, List.set_cons_zero, List.set_cons_succ]); (try with_reducible rfl))) :
    wpAnyH P md ops Q S (fuel + 2) listed a w := by
  subst he
  simp only [Bool.and_eq_true] at hc
  obtain ⟨h1, h2, h3⟩ := Oper.apart_spec hc.2.1
  have hne : i ≠ j := by simpa using hc.2.2
  have hsel := Region.noSelect_spec hc.1
  obtain ⟨r0, r1, r2⟩ := hr
  refine ⟨fun e => (by rw [r0] at e; cases e), fun x hx => ?_⟩
  rw [r0] at hx
  rcases List.mem_cons.1 hx with rfl | hx
  · unfold wpOp
    rw [hi]
    simp only [wi, if_true]
    refine .inl ?_
    simp only [Oper.wp, vi, Oper.upon]
    refine ⟨hS, ⟨fun e => (by rw [r1] at e; cases e), fun y hy => ?_⟩⟩
    rw [r1] at hy
    obtain rfl := List.mem_singleton.1 hy
    unfold wpOp
    rw [hj]
    simp only [wanted_put _ a _ v h1, wj, if_true]
    refine .inl ?_
    rw [Oper.wp, execOp_put _ (fun cs b => hsel _ _ cs b hj) a _ v h1, vj]
    exact ⟨hS1, h hS1⟩
  · obtain rfl := List.mem_singleton.1 hx
    unfold wpOp
    rw [hj]
    simp only [wj, if_true]
    refine .inl ?_
    simp only [Oper.wp, vj, Oper.upon]
    refine ⟨hS1, ⟨fun e => (by rw [r2] at e; cases e), fun y hy => ?_⟩⟩
    rw [r2] at hy
    obtain rfl := List.mem_singleton.1 hy
    unfold wpOp
    rw [hi]
    simp only [wanted_put _ a _ u h3, wi, if_true]
    refine .inl ?_
    rw [Oper.wp, execOp_put _ (fun cs b => hsel _ _ cs b hi) a _ u h3, vi1]
    refine ⟨hS1, ?_⟩
    have := h hS1
    rw [Array.setIfInBounds_comm _ _ hne, Act.put_comm a v u h2] at this
    exact this
end
end Go.Proofs.YtlbpmmjckoaleaaGreat
namespace Go.Proofs.YtlbpmmjckoaleaaGreat
theorem mul_bd {a b A B : Int} (ha : -A ≤ a ∧ a ≤ A) (hb : -B ≤ b ∧ b ≤ B) : -(A * B) ≤ a * b ∧ a * b ≤ A * B := by
  have h1 := Int.mul_nonneg (show 0 ≤ A - a by omega) (show 0 ≤ B + b by omega)
  have h2 := Int.mul_nonneg (show 0 ≤ A + a by omega) (show 0 ≤ B - b by omega)
  have h3 := Int.mul_nonneg (show 0 ≤ A - a by omega) (show 0 ≤ B - b by omega)
  have h4 := Int.mul_nonneg (show 0 ≤ A + a by omega) (show 0 ≤ B + b by omega)
  simp only [Int.mul_add, Int.add_mul, Int.sub_mul, Int.mul_sub] at h1 h2 h3 h4
  omega
def clampZ (l n : Int) : Int := if n < -l then -l else if l < n then l else n
theorem clampZ_bd {l : Int} (n : Int) (h : 0 ≤ l) : -l ≤ clampZ l n ∧ clampZ l n ≤ l := by
  unfold clampZ; split
  · omega
  · split <;> omega
theorem clampZ_id {l n : Int} (h1 : -l ≤ n) (h2 : n ≤ l) : clampZ l n = n := by
  unfold clampZ; rw [if_neg (by omega), if_neg (by omega)]
def FM : Int := 1000000000
def fc (n : Int) : Int := clampZ 1000000000 n
theorem fc_bd (n : Int) : -1000000000 ≤ fc n ∧ fc n ≤ 1000000000 := clampZ_bd n (by decide)
theorem fc_id {n : Int} (h1 : -1000000000 ≤ n) (h2 : n ≤ 1000000000) : fc n = n := clampZ_id h1 h2
theorem fc_fc (n : Int) : fc (fc n) = fc n := fc_id (fc_bd n).1 (fc_bd n).2
def fmul (a b : Int) : Int := fc ((fc a * fc b).tdiv 256)
def fdiv (a b : Int) : Int := if fc b = 0 then fc (fc a * 1000000000) else fc ((fc a * 256).tdiv (fc b))
def IsRoot (n r : Int) : Prop := 0 ≤ r ∧ r * r ≤ n ∧ n < (r + 1) * (r + 1)
theorem sq_mono {a b : Int} (h0 : 0 ≤ a) (h : a ≤ b) : a * a ≤ b * b := Int.mul_le_mul h h h0 (by omega)
theorem IsRoot.uniq {n r s : Int} (h : IsRoot n r) (k : IsRoot n s) : r = s := by
  obtain ⟨a0, a1, a2⟩ := h
  obtain ⟨b0, b1, b2⟩ := k
  rcases Int.lt_trichotomy r s with h | h | h
  · have := sq_mono (show 0 ≤ r + 1 by omega) (show r + 1 ≤ s by omega); omega
  · exact h
  · have := sq_mono (show 0 ≤ s + 1 by omega) (show s + 1 ≤ r by omega); omega
def rootN : Nat → Nat
  | 0 => 0
  | n + 1 => if (rootN n + 1) * (rootN n + 1) ≤ n + 1 then rootN n + 1 else rootN n
theorem rootN_is (n : Nat) : rootN n * rootN n ≤ n ∧ n < (rootN n + 1) * (rootN n + 1) := by
  induction n with
  | zero => simp [rootN]
  | succ n ih =>
    obtain ⟨h1, h2⟩ := ih
    unfold rootN
    split
    · refine ⟨by assumption, ?_⟩
      simp only [Nat.mul_add, Nat.add_mul] at *
      omega
    · exact ⟨by omega, by omega⟩
def rootZ (n : Int) : Int := if n < 0 then 0 else (rootN n.toNat : Int)
theorem rootZ_neg {n : Int} (h : n < 0) : rootZ n = 0 := by unfold rootZ; rw [if_pos h]
theorem rootZ_is {n : Int} (h : 0 ≤ n) : IsRoot n (rootZ n) := by
  have e : rootZ n = (rootN n.toNat : Int) := by unfold rootZ; rw [if_neg (by omega)]
  obtain ⟨h1, h2⟩ := rootN_is n.toNat
  have k1 : ((rootN n.toNat * rootN n.toNat : Nat) : Int) ≤ (n.toNat : Int) := by exact_mod_cast h1
  have k2 : (n.toNat : Int) < (((rootN n.toNat + 1) * (rootN n.toNat + 1) : Nat) : Int) := by exact_mod_cast h2
  rw [Int.natCast_mul] at k1 k2
  rw [Int.natCast_add, Int.toNat_of_nonneg h] at k2
  rw [Int.toNat_of_nonneg h] at k1
  rw [e]
  exact ⟨Int.natCast_nonneg _, k1, k2⟩
theorem rootZ_of {n r : Int} (h : IsRoot n r) : rootZ n = r := by
  have h0 : 0 ≤ n := by obtain ⟨a, b, _⟩ := h; have := Int.mul_nonneg a a; omega
  exact IsRoot.uniq (rootZ_is h0) h
theorem rootZ_nonneg (n : Int) : 0 ≤ rootZ n := by
  by_cases h : n < 0
  · rw [rootZ_neg h]; omega
  · exact (rootZ_is (by omega)).1
theorem rootZ_le {n B : Int} (hB : 0 ≤ B) (h : n < (B + 1) * (B + 1)) : rootZ n ≤ B := by
  by_cases h0 : n < 0
  · rw [rootZ_neg h0]; exact hB
  · obtain ⟨a, b, c⟩ := rootZ_is (show 0 ≤ n by omega)
    rcases Int.lt_or_le B (rootZ n) with k | k
    · have := sq_mono (show 0 ≤ B + 1 by omega) (show B + 1 ≤ rootZ n by omega); omega
    · exact k
theorem tdiv_bd {x B : Int} (m : Int) (h : -B ≤ x ∧ x ≤ B) : -B ≤ x.tdiv m ∧ x.tdiv m ≤ B := by
  have := Int.natAbs_tdiv_le_natAbs x m; omega
def absZ (n : Int) : Int := if n < 0 then -n else n
def fsqrt (n : Int) : Int := rootZ (fc n * 256)
end Go.Proofs.YtlbpmmjckoaleaaGreat
namespace Go.Proofs.YtlbpmmjckoaleaaGreat
open Go.RowKit
theorem held_any (n l : Int) (w : World) (h0 : 0 ≤ l) (h1 : l ≤ 4000000000) :
    Calls Tryz.prog 123 #[.int .i64 n, .int .i64 l] w fun e w' => e = .returned (.int .i64 (clampZ l n)) ∧ w' = w := by
  go_enter Tryz.func123, Tryz.ntmps123
  go_wp2
  all_goals
    go_ret
    refine ⟨ret_int ?_, rfl⟩
    unfold clampZ
    repeat' split
    all_goals (repeat' split at *) <;> omega
theorem sFixClamp_any (n : Int) (w : World) :
    Calls Tryz.prog 91 #[.int .i64 n] w fun e w' => e = .returned (.int .i64 (fc n)) ∧ w' = w := by
  go_enter Tryz.func91, Tryz.ntmps91
  go_wp2
  all_goals
    go_ret
    refine ⟨ret_int ?_, rfl⟩
    unfold fc clampZ
    repeat' split
    all_goals omega
end Go.Proofs.YtlbpmmjckoaleaaGreat
namespace Go.Proofs.YtlbpmmjckoaleaaGreat
open Go.RowKit
set_option linter.unusedVariables false
theorem lt_of_sq {a b : Int} (hb : 0 ≤ b) (h : a * a < b * b) : a < b := by
  rcases Int.lt_or_le a b with k | k
  · exact k
  · have := sq_mono hb k; omega
theorem le_of_sq {a b : Int} (hb : 0 ≤ b) (h : a * a < (b + 1) * (b + 1)) : a ≤ b := by
  have := lt_of_sq (show 0 ≤ b + 1 by omega) h; omega
theorem mid {l h : Int} (a : 0 ≤ l) (b : l + 1 < h) : l < (l + h) / 2 ∧ (l + h) / 2 < h := by omega
theorem l1Root_any (n : Int) (w : World) (h0 : 0 ≤ n) (h1 : n ≤ 2000000000000000000) :
    Calls Tryz.prog 92 #[.int .i64 n] w fun e w' => e = .returned (.int .i64 (rootZ n)) ∧ w' = w := by
  go_enter Tryz.func92, Tryz.ntmps92
  go_wp2
  go_loop [4] (fun t => ∃ h : Int, 1 ≤ h ∧ h ≤ 2828427126 ∧ t = .int .i64 h) (fun t => (2828427126 - intOf t).toNat)
  case atStart => exact ⟨1, by omega, by omega, rfl⟩
  case round =>
    obtain ⟨h, a1, a2, rfl⟩ := hrel
    have hb := mul_bd (a := h) (b := h) (A := 2828427126) (B := 2828427126) (by omega) (by omega)
    obtain ⟨hb1, hb2⟩ := hb
    by_cases hc : h * h ≤ n
    · have hle : h ≤ 1414213563 := le_of_sq (by omega) (by omega)
      go_wp2
      go_round
      case rel => exact ⟨2 * h, by omega, by omega, rfl⟩
      case measure => simp [intOf]; omega
    · go_wp2
      go_loop [3, 4] (fun s t => ∃ l h : Int, 0 ≤ l ∧ l < h ∧ h ≤ 2828427126 ∧ l * l ≤ n ∧ n < h * h ∧ s = .int .i64 l ∧ t = .int .i64 h) (fun s t => (intOf t - intOf s).toNat)
      case atStart => exact ⟨0, h, by omega, by omega, by omega, by omega, by omega, rfl, rfl⟩
      case round =>
        obtain ⟨l, h, b0, b1, b2, b3, b4, rfl, rfl⟩ := hrel
        by_cases hd : 1 < h - l
        · have hm := mid b0 (show l + 1 < h by omega)
          have hb := mul_bd (a := (l + h) / 2) (b := (l + h) / 2) (A := 2828427126) (B := 2828427126) (by omega) (by omega)
          obtain ⟨hb1, hb2⟩ := hb
          obtain ⟨hm1, hm2⟩ := hm
          by_cases he : (l + h) / 2 * ((l + h) / 2) ≤ n
          · go_wp2
            go_round
            case rel => exact ⟨_, h, by omega, hm2, by omega, he, by omega, rfl, rfl⟩
            case measure => simp [intOf]; omega
          · go_wp2
            go_round
            case rel => exact ⟨l, _, by omega, hm1, by omega, b3, by omega, rfl, rfl⟩
            case measure => simp [intOf]; omega
        · have e : h = l + 1 := by omega
          go_wp2
          go_ret
          exact ⟨ret_int (rootZ_of ⟨b0, b3, by rw [← e]; exact b4⟩).symm, rfl⟩
def cellInt (w : World) (a : Addr) : Int := match w.cell? a with | some v => intOf v | none => 0
theorem cellInt_of {w : World} {a : Addr} {k : IntKind} {n : Int} (h : w.cell? a = some (.int k n)) : cellInt w a = n := by simp [cellInt, h, intOf]
theorem narrow_any (B : Nat) (n l h : Int) (w : World) (hl : w.cell? ⟨B + 1, 0, none⟩ = some (.int .i64 l)) (hh : w.cell? ⟨B + 2, 0, none⟩ = some (.int .i64 h)) (hn : w.cell? ⟨B, 0, none⟩ = some (.int .i64 n))
    (fl : w.frozen? ⟨B + 1, 0, none⟩ = false) (fh : w.frozen? ⟨B + 2, 0, none⟩ = false) (a0 : 0 ≤ l) (a1 : l + 1 < h) (a2 : h ≤ 2147483648) :
    Calls Tryz.prog 125 #[.pointer (some ⟨B + 1, 0, none⟩), .pointer (some ⟨B + 2, 0, none⟩), .pointer (some ⟨B, 0, none⟩)] w fun e w' => ∃ l' h' : Int,
      e = .returned (.bool (decide (1 < h' - l'))) ∧ 0 ≤ l' ∧ l' < h' ∧ h' ≤ 2147483648 ∧ h' - l' < h - l ∧ (l' = l ∨ l' * l' ≤ n) ∧ (h' = h ∨ n < h' * h') ∧
      w'.cell? ⟨B + 1, 0, none⟩ = some (.int .i64 l') ∧ w'.cell? ⟨B + 2, 0, none⟩ = some (.int .i64 h') ∧ w'.cell? ⟨B, 0, none⟩ = some (.int .i64 n) ∧
      w'.frozen? ⟨B + 1, 0, none⟩ = false ∧ w'.frozen? ⟨B + 2, 0, none⟩ = false ∧ Below B w w' := by
  have hm := mid a0 a1
  have hb := mul_bd (a := (l + h) / 2) (b := (l + h) / 2) (A := 2147483648) (B := 2147483648) (by omega) (by omega)
  obtain ⟨hb1, hb2⟩ := hb
  obtain ⟨hm1, hm2⟩ := hm
  by_cases he : (l + h) / 2 * ((l + h) / 2) ≤ n
  · go_enter Tryz.func125, Tryz.ntmps125
    go_wp2
    go_ret
    exact ⟨(l + h) / 2, h, rfl, by omega, by omega, by omega, by omega, .inr he, .inl rfl, cset_same hl, by rw [cset_far (by simp)]; exact hh,
      by rw [cset_far (by simp)]; exact hn, by simpa using fl, by simpa using fh, (Below.refl _ _).setCell (by simp) _⟩
  · go_enter Tryz.func125, Tryz.ntmps125
    go_wp2
    go_ret
    exact ⟨l, (l + h) / 2, rfl, by omega, by omega, by omega, by omega, .inl rfl, .inr (by omega), by rw [cset_far (by simp)]; exact hl, cset_same hh,
      by rw [cset_far (by simp)]; exact hn, by simpa using fl, by simpa using fh, (Below.refl _ _).setCell (by simp) _⟩
theorem root_any (n : Int) (w : World) (h1 : n ≤ 2000000000000000000) :
    Calls Tryz.prog 122 #[.int .i64 n] w fun e w' => e = .returned (.int .i64 (rootZ n)) ∧ Below w.heap.size w w' := by
  go_enter Tryz.func122, Tryz.ntmps122
  go_wp2
  go_loopw [] (fun wr => ∃ l h : Int, 0 ≤ l ∧ l + 1 < h ∧ h ≤ 2147483648 ∧ (l = 0 ∨ l * l ≤ n) ∧ n < h * h ∧
      wr.cell? ⟨w.heap.size + 1, 0, none⟩ = some (.int .i64 l) ∧ wr.cell? ⟨w.heap.size + 2, 0, none⟩ = some (.int .i64 h) ∧ wr.cell? ⟨w.heap.size, 0, none⟩ = some (.int .i64 n) ∧
      wr.frozen? ⟨w.heap.size + 1, 0, none⟩ = false ∧ wr.frozen? ⟨w.heap.size + 2, 0, none⟩ = false ∧ Below w.heap.size w wr)
    (fun wr => (cellInt wr ⟨w.heap.size + 2, 0, none⟩ - cellInt wr ⟨w.heap.size + 1, 0, none⟩).toNat)
  case atStart =>
    refine ⟨0, 2147483648, by omega, by omega, by omega, .inl rfl, by omega, ?_, ?_, ?_, ?_, ?_, ?_⟩
    iterate 5 go_simp
    exact (((Below.refl _ _).alloc (Nat.le_refl _) _).alloc (by simp) _).alloc (by simp; omega) _
  case round =>
    obtain ⟨l, h, a0, a1, a2, a3, a4, c1, c2, c0, f1, f2, hbel⟩ := hrel
    go_wp2_with (go_at_call 125; refine (narrow_any _ _ _ _ _ c1 c2 c0 f1 f2 a0 a1 a2).mono ?_; rintro e w1 ⟨l', h', rfl, b0, b1, b2, b3, b4, b5, d1, d2, d0, g1, g2, hb1⟩)
    · go_roundw
      case rel => exact ⟨l', h', by omega, by omega, by omega, by rcases b4 with rfl | k; exact a3; exact .inr k, by rcases b5 with rfl | k; exact a4; exact k, d1, d2, d0, g1, g2, hbel.trans hb1⟩
      case measure => simp only [cellInt_of c1, cellInt_of c2, cellInt_of d1, cellInt_of d2]; omega
    · go_ret
      refine ⟨ret_int ?_, hbel.trans hb1⟩
      have e : h' = l' + 1 := by omega
      have q4 : n < (l' + 1) * (l' + 1) := by rw [← e]; rcases b5 with rfl | k; exact a4; exact k
      have q3 : l' = 0 ∨ l' * l' ≤ n := by rcases b4 with rfl | k; exact a3; exact .inr k
      rcases q3 with rfl | q3
      · by_cases hn : n < 0
        · rw [rootZ_neg hn]
        · exact (rootZ_of ⟨by omega, by omega, q4⟩).symm
      · exact (rootZ_of ⟨b0, q3, q4⟩).symm
end Go.Proofs.YtlbpmmjckoaleaaGreat
