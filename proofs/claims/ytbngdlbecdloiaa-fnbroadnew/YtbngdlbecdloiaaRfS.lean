/- A range over an iterator that takes memory of its own between its yields: the laws, whatever the program. -/
import Derived.Test.YtbngdlbecdloiaaRfG
import Derived.Test.YtbngdlbecdloiaaCs
import Derived.RangeFuncBound
set_option maxHeartbeats 16000000
set_option maxRecDepth 20000
namespace Go.Proofs.Ytbngdlbecdloiaa
open Go.RowKit
set_option linter.unusedVariables false
/-- what the iterator leaves: all below B as it was, and the cells outside its own blocks -/
structure Kxs (B : Nat) (S : Nat → Prop) (A A' : World) : Prop where
  below : Below B A A'
  cells : ∀ (k : Nat) (o : Obj), A.heap[k]? = some o → o.isCells = true → ¬ S k → A'.heap[k]? = some o
/-- what a round leaves of the iterator's: its blocks' cells, and all book-keeping -/
structure Kcs (B : Nat) (S : Nat → Prop) (A A' : World) : Prop where
  others : KeepsFrom B A A'
  own : ∀ (k : Nat) (o : Obj), B ≤ k → S k → A.heap[k]? = some o → o.isCells = true → A'.heap[k]? = some o
/-- the iterator's blocks grow by young ones alone -/
def Gr (A : World) (S S' : Nat → Prop) : Prop := ∀ b, S' b → S b ∨ A.heap.size ≤ b
theorem Gr.refl (A : World) (S : Nat → Prop) : Gr A S S := fun _ h => .inl h
theorem Gr.old {A : World} {S S' : Nat → Prop} (h : Gr A S S') {b : Nat} (hb : b < A.heap.size) (hS : ¬ S b) : ¬ S' b := fun k => by
  rcases h b k with e | e
  · exact hS e
  · omega
theorem Gr.trans {X Y : World} {S S' S'' : Nat → Prop} (h : Gr X S S') (k : Gr Y S' S'') (hs : X.heap.size ≤ Y.heap.size) : Gr X S S'' := fun b e => by
  rcases k b e with z | z
  · exact h b z
  · exact .inr (by omega)
theorem Kxs.refl (B : Nat) (S : Nat → Prop) (A : World) : Kxs B S A A := ⟨Below.refl _ _, fun _ _ h _ _ => h⟩
theorem Kxs.size {B : Nat} {S : Nat → Prop} {X Y : World} (h : Kxs B S X Y) : X.heap.size ≤ Y.heap.size := h.below.size
theorem Kxs.trans {B : Nat} {S : Nat → Prop} {X Y Z : World} (h : Kxs B S X Y) (k : Kxs B S Y Z) : Kxs B S X Z := ⟨h.below.trans k.below, fun i o hi ho hS => k.cells i o (h.cells i o hi ho hS) ho hS⟩
/-- two steps, the blocks grown between them -/
theorem Kxs.grown {B : Nat} {S S' : Nat → Prop} {X Y Z : World} (h : Kxs B S X Y) (g : Gr X S S') (k : Kxs B S' Y Z) : Kxs B S X Z :=
  ⟨h.below.trans k.below, fun i o hi ho hS => k.cells i o (h.cells i o hi ho hS) ho (g.old (Array.getElem?_eq_some_iff.1 hi).1 hS)⟩
theorem Kxs.sm {B B' : Nat} {S : Nat → Prop} {X Y Z : World} (h : Kxs B S X Y) (k : Sm B' Y Z) (hB : B ≤ B') : Kxs B S X Z := ⟨h.below.trans (k.below.mono hB), fun i o hi ho hS => k.cells i o (h.cells i o hi ho hS) ho⟩
theorem Kxs.of_sm {B B' : Nat} {S : Nat → Prop} {X Y : World} (k : Sm B' X Y) (hB : B ≤ B') : Kxs B S X Y := (Kxs.refl B S X).sm k hB
/-- a step of the iterator: in its blocks, or in what is younger than the round -/
theorem Kxs.fr {B : Nat} {S : Nat → Prop} {X Y Z : World} {T : Nat → Prop} (h : Kxs B S X Y) (k : Fr T Y Z) (hT : ∀ b, T b → B ≤ b ∧ (S b ∨ X.heap.size ≤ b)) (hB : B ≤ X.heap.size) : Kxs B S X Z :=
  ⟨h.below.trans (k.below (Nat.le_trans hB h.size) (fun b e => (hT b e).1)), fun i o hi ho hS => by
    have hl : i < X.heap.size := (Array.getElem?_eq_some_iff.1 hi).1
    exact (k.block i (Nat.lt_of_lt_of_le hl h.size) (fun e => by
      rcases (hT i e).2 with z | z
      · exact hS z
      · omega)).trans (h.cells i o hi ho hS)⟩
theorem Kxs.of_below {B : Nat} {S : Nat → Prop} {X Y : World} (k : Below X.heap.size X Y) (hB : B ≤ X.heap.size) : Kxs B S X Y :=
  ⟨k.mono hB, fun i o hi _ _ => (k.block i (Array.getElem?_eq_some_iff.1 hi).1).trans hi⟩
theorem Kcs.refl (B : Nat) (S : Nat → Prop) (A : World) : Kcs B S A A := ⟨KeepsFrom.refl _ _, fun _ _ _ _ h _ => h⟩
theorem Kcs.trans {B : Nat} {S : Nat → Prop} {X Y Z : World} (h : Kcs B S X Y) (k : Kcs B S Y Z) : Kcs B S X Z := ⟨h.others.trans k.others, fun i o a b c d => k.own i o a b (h.own i o a b c d) d⟩
theorem Kcs.less {B : Nat} {S S' : Nat → Prop} {X Y : World} (h : Kcs B S X Y) (k : ∀ b, S' b → S b) : Kcs B S' X Y := ⟨h.others, fun i o a b => h.own i o a (k i b)⟩
theorem Kcs.fr {B : Nat} {S : Nat → Prop} {X Y : World} {T : Nat → Prop} (k : Fr T X Y) (hT : ∀ b, T b → b < B ∨ ¬ S b) : Kcs B S X Y :=
  ⟨k.keeps B, fun i o hB hS hi ho => (k.block i (Array.getElem?_eq_some_iff.1 hi).1 (fun e => by
    rcases hT i e with z | z
    · omega
    · exact z hS)).trans hi⟩
theorem Kcs.of_below {B : Nat} {S : Nat → Prop} {X Y : World} (k : Below X.heap.size X Y) : Kcs B S X Y := Kcs.fr (T := fun _ => False) (Fr.of_below k) (fun _ h => h.elim)
theorem Kcs.putObj {B l : Nat} {S : Nat → Prop} {X : World} (o : Obj) (h : l < B) : Kcs B S X (X.putObj l o) :=
  ⟨⟨by simp [World.putObj], fun k x hk hx _ => (World.putObj_heap_other (by omega)).trans hx⟩, fun k x hB _ hx _ => (World.putObj_heap_other (by omega)).trans hx⟩
theorem Kcs.cell {B : Nat} {S : Nat → Prop} {X Y : World} (h : Kcs B S X Y) {p : Addr} {v : Value} (hc : X.cell? p = some v) (h1 : B ≤ p.block) (h2 : S p.block) : Y.cell? p = some v := by
  obtain ⟨o, ho, hx⟩ := isCells_of_cell hc
  exact (World.cell?_of_block ((h.own _ _ h1 h2 ho hx).trans ho.symm)).trans hc
/-- what such an iterator is asked -/
def ItGs (P : Program) (gf : Nat) (bound : Array Value) (Col : World → Prop) (E : (Nat → Prop) → Nat → Array Value → World → Prop) (nn : Nat) (w : World) : Prop :=
  ∀ (l : Nat) (J : (Nat → Prop) → Nat → World → Prop) (W : World), Below w.heap.size w W →
    (∀ H H' k A A', J H k A → Kxs W.heap.size H A A' → Gr A H H' → J H' k A') → (∀ H k A, J H k A → Col A) →
    (∀ H W0, Below W.heap.size W W0 → (∀ b, H b → W.heap.size ≤ b) → J H 0 W0) →
    (∀ H k A args, J H k A → k < nn → E H k args A → YieldAt Fence.wide 0 P l args A fun e A' => e = .returned (.bool true) ∧ J H (k + 1) A' ∧ Kcs W.heap.size H A A') →
    CallsIn Fence.wide 0 P gf (bound ++ #[.func (.yield l) #[] #[]]) W fun e A => (∃ v, e = .returned v) ∧ ∃ H, J H nn A
/-- one round of the range over it -/
theorem yield_roundS {P : Program} {ps : Array Tmp} {assign body : Code} {a : Act} {B l dl : Nat} {fn : FuncId} {args : Array Value} (hps : args.size = ps.size)
    {I' : World → Prop} (hI' : ∀ A r o, I' A → A.heap[l]? = some (.loop r) → I' (A.putObj l (.loop o))) {Hh : World → Prop} (hH : ∀ A B', Hh A → KeepsFrom B A B' → Hh B') (hHp : ∀ A o, Hh A → Hh (A.putObj l o))
    {rec : LoopState → Option Code → Loop} (hrec : rec = fun st pe => { state := st, pending := pe, fn, tmps := a.tmps, params := ps, assign, body, defers := dl }) (hBl : B ≤ l)
    {W : World} (hl : W.heap[l]? = some (.loop (rec .ready none))) (hh : Hh W)
    (hround : assign.wpIn (Fence.wide.inRound l) 0 P (Exit.then (fun a₁ W₁ => KeepsFrom B W W₁ ∧ ∀ W₂, Sm B W₁ W₂ → (∀ (B' : Nat) (H' : Nat → Prop), l < B' → Kcs B' H' W₁ W₂) → (∃ r, W₂.heap[l]? = some (.loop r)) → body.wpIn (Fence.wide.inRound l) 0 P (rdPost B I' (fun _ _ => False) W₂) a₁ W₂) (fun _ _ _ => False))
      { tmps := (ps.zip args).foldl (fun t (p, v) => t.setIfInBounds p v) a.tmps, defers := [] } W) :
    YieldAt Fence.wide 0 P l args W fun e W' => e = .returned (.bool true) ∧ I' W' ∧ W'.heap[l]? = some (.loop (rec .ready none)) ∧ Hh W' := by
  have hy := run_yield (P := P) (args := args) hl (by rw [hrec]; exact hps)
  rw [hrec] at hy
  refine ⟨fn, _, assign, body, hy, roundIn_of_wpIn trivial (wpIn_mono hround ?_)⟩
  intro e a₁ W₁ q
  cases e with
  | normal =>
    obtain ⟨hk1, hb⟩ := q
    have hl1 := hk1.same _ _ hBl hl rfl
    have hh1 := hH _ _ hh hk1
    refine ⟨_, run_beginRound hl1 (by rw [hrec]), ?_⟩
    have hlt : l < W₁.heap.size := (Array.getElem?_eq_some_iff.1 hl1).1
    have hl2 : (W₁.putObj l (.loop { rec .ready none with state := .busy })).heap[l]? = some (.loop { rec .ready none with state := .busy }) := World.putObj_heap_same hlt
    refine wpIn_mono (hb _ (Sm.putObj _ hl1 rfl hBl) (fun B' H' h => Kcs.putObj _ h) ⟨_, hl2⟩) ?_
    rintro e a3 W3 hp
    cases e with
    | normal =>
      obtain ⟨hk3, hi3⟩ := hp
      have hl3 := hk3.same _ _ hBl hl2 rfl
      have hr := run_endRound (P := P) none hl3
      have hr' : (Instr.endRound l none).run P W3 = .ok (.bool true) (W3.putObj l (.loop (rec .ready none))) := by rw [hrec] at hr ⊢; exact hr
      exact ⟨_, _, hr', rfl, hI' _ _ _ hi3 hl3, World.putObj_heap_same (Array.getElem?_eq_some_iff.1 hl3).1, hHp _ _ (hH _ _ (hHp _ _ hh1) hk3)⟩
    | ret => exact hp.2.elim
    | exit id => exact hp.2.elim
    | goto t => exact hp.2.elim
    | panic ch => exact hp.elim
    | outgrown => exact hp.elim
  | exit id => exact q.elim
  | goto t => exact q.elim
  | ret => exact q.elim
  | panic ch => exact q.elim
  | outgrown => exact q.elim
/-- the statement, not within a round -/
theorem wp_range_outS {P : Program} {g : Operand} {ps : Array Tmp} {assign body : Code} {Q : Exit → Act → World → Prop} {a : Act} {w : World} {gf : Nat} {bound : Array Value}
    (hg : a.eval g = .func (.func gf) bound #[]) (eg : ∀ args w, (callFunc gf args).run P w = .ok (.enter gf args) w)
    {Col : World → Prop} {E : (Nat → Prop) → Nat → Array Value → World → Prop} {nn : Nat} (hit : ItGs P gf bound Col E nn w) (hps : ∀ H k args A, E H k args A → args.size = ps.size)
    (I : (Nat → Prop) → Nat → World → Prop) (hI : ∀ H H' k A B, I H k A → Kxs (w.heap.size + 2) H A B → Gr A H H' → I H' k B) (hIs : ∀ H k A B, I H k A → Sm w.heap.size A B → I H k B) (hcol : ∀ H k A, I H k A → Col A)
    (h0 : ∀ H W0, Below w.heap.size w W0 → w.heap.size + 2 ≤ W0.heap.size → (∀ b, H b → w.heap.size + 2 ≤ b) → I H 0 W0)
    (hround : ∀ l H k W args, w.heap.size ≤ l → l < w.heap.size + 2 → w.heap.size + 2 ≤ W.heap.size → I H k W → k < nn → E H k args W →
      assign.wpIn (Fence.wide.inRound l) 0 P (Exit.then (fun a₁ W₁ => KeepsFrom w.heap.size W W₁ ∧ ∀ W₂, Sm w.heap.size W₁ W₂ → (∀ (B' : Nat) (H' : Nat → Prop), l < B' → Kcs B' H' W₁ W₂) → (∃ r, W₂.heap[l]? = some (.loop r)) →
        body.wpIn (Fence.wide.inRound l) 0 P (rdPost w.heap.size (fun W' => I H (k + 1) W' ∧ Kcs (w.heap.size + 2) H W W') (fun _ _ => False) W₂) a₁ W₂) (fun _ _ _ => False))
      { tmps := (ps.zip args).foldl (fun t (p, v) => t.setIfInBounds p v) a.tmps, defers := [] } W)
    (hdone : ∀ (D : Nat) (H : Nat → Prop) (W : World), w.heap.size ≤ D → I H nn W → W.heap[D]? = some (.deferred (some [])) → Q .normal { a with defers := { target := .collected D, args := #[] } :: a.defers } W) :
    (Code.rangeFunc g ps assign body).wp P Q a w := by
  refine wpIn_wide.1 (wpIn_rangeFunc (n := 0) ?_)
  intro fn _
  obtain ⟨rec, hrec⟩ : ∃ rec : LoopState → Option Code → Loop, rec = fun st pe => { state := st, pending := pe, fn, tmps := a.tmps, params := ps, assign, body, defers := w.heap.size } := ⟨_, rfl⟩
  obtain ⟨W1, hW1⟩ : ∃ W1, (w.alloc (.deferred (some []))).alloc (.loop (rec .ready none)) = W1 := ⟨_, rfl⟩
  have hb1 : Below w.heap.size w W1 := by rw [← hW1]; exact ((Below.refl _ w).alloc (Nat.le_refl _) _).alloc (by simp) _
  have hz1 : W1.heap.size = w.heap.size + 2 := by rw [← hW1]; simp
  have hL1 : W1.heap[w.heap.size + 1]? = some (.loop (rec .ready none)) := by
    rw [← hW1]; have := World.alloc_heap_new (w.alloc (.deferred (some []))) (.loop (rec .ready none)); rwa [World.size_alloc] at this
  have hK1 : W1.heap[w.heap.size]? = some (.deferred (some [])) := by
    rw [← hW1]; exact (Below.heap_alloc _ _ _ (by simp)).trans (World.alloc_heap_new w _)
  refine ⟨w.heap.size + 1, [{ target := .collected w.heap.size, args := #[] }], W1, { target := .fn (.func gf) #[], args := bound ++ #[.func (.yield (w.heap.size + 1)) #[] #[]] }, W1, gf,
    bound ++ #[.func (.yield (w.heap.size + 1)) #[] #[]], W1, ?_, ?_, fun _ _ => trivial, ?_, (fun e => by cases e), ?_⟩
  · rw [← hW1, hrec]; exact run_enterLoop_outer _ _ _ _ _
  · simp only [resolve, hg]
    simp [go_sem]
  · simp [invoke, go_sem, eg]
  · refine (hit (w.heap.size + 1)
      (fun H k W => I H k W ∧ W.heap[w.heap.size + 1]? = some (.loop (rec .ready none)) ∧ W.heap[w.heap.size]? = some (.deferred (some [])) ∧ w.heap.size + 2 ≤ W.heap.size)
      W1 hb1 ?_ ?_ ?_ ?_).mono ?_
    · rintro H H' k A B ⟨h1, h2, h3, h4⟩ hb hg
      rw [hz1] at hb
      exact ⟨hI _ _ _ _ _ h1 hb hg, (hb.below.block _ (by omega)).trans h2, (hb.below.block _ (by omega)).trans h3, Nat.le_trans h4 hb.size⟩
    · rintro H k A ⟨h1, _⟩
      exact hcol _ _ _ h1
    · intro H W0 hb hH
      exact ⟨h0 H W0 (hb1.trans (hb.mono (by omega))) (by have := hb.size; omega) (fun b e => by have := hH b e; omega), (hb.block _ (by omega)).trans hL1, (hb.block _ (by omega)).trans hK1, by have := hb.size; omega⟩
    · rintro H k W args ⟨h1, h2, h3, h4⟩ hk hE
      rw [hz1]
      refine (yield_roundS (P := P) (ps := ps) (assign := assign) (body := body) (a := a) (B := w.heap.size) (l := w.heap.size + 1) (dl := w.heap.size) (fn := fn) (args := args) (hps _ _ _ _ hE)
        (I' := fun W' => I H (k + 1) W' ∧ Kcs (w.heap.size + 2) H W W') (fun A r o h hl => ⟨hIs _ _ _ _ h.1 (Sm.putObj _ hl rfl (by omega)), h.2.trans (Kcs.putObj _ (by omega))⟩)
        (Hh := fun W => W.heap[w.heap.size]? = some (.deferred (some [])) ∧ w.heap.size + 2 ≤ W.heap.size) (fun A B h hk => ⟨hk.same _ _ (Nat.le_refl _) h.1 rfl, Nat.le_trans h.2 hk.size⟩) (fun A o h => ⟨(World.putObj_heap_other (by omega)).trans h.1, by simpa [World.putObj] using h.2⟩) hrec (by omega) h2 ⟨h3, h4⟩
        (hround _ H k W args (by omega) (by omega) h4 h1 hk hE)).mono ?_
      rintro e W' ⟨e1, ⟨h1, hc⟩, h2, h3, h4⟩
      exact ⟨e1, ⟨h1, h2, h3, h4⟩, hc⟩
    · rintro e W2 ⟨⟨v, rfl⟩, H, hi, hl, hk, _⟩
      exact ⟨none, _, by have := run_endLoop (P := P) hl (by rw [hrec]; simp); rw [hrec] at this; exact this, hdone _ H _ (Nat.le_refl _) (hIs _ _ _ _ hi (Sm.putObj _ hl rfl (by omega))) ((World.putObj_heap_other (by omega)).trans hk)⟩
end Go.Proofs.Ytbngdlbecdloiaa
