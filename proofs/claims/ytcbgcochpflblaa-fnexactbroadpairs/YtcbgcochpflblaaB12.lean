/- A range over an iterator that takes memory of its own between its yields: the laws, whatever the program. A drawn region that is held, within a fence whose every function may be called: a call of yield in it, too. All two that meet, told one by one. The contracts of the specification's BoxMeets and BoxHas. -/
import Derived.Test.YtcbgcochpflblaaB11
import Derived.RangeFuncBound
import Derived.Test.YtcbgcochpflblaaB3
import Derived.OwnWalkIn
import Derived.Test.YtcbgcochpflblaaB10
import Derived.Test.YtcbgcochpflblaaB1
import Derived.LoopNIn
import Derived.LoopIn
import Derived.Shelf.Abstract
import Derived.Deep.DeepCutAuto
import Derived.Test.YtcbgcochpflblaaB5
import Derived.Deep.QuietTactic
import Derived.BigQuiet
import Derived.Deep.RegionWith
namespace Go.Proofs.Ytcbgcochpflblaa
open Go.RowKit
set_option linter.unusedVariables false
/-- what the iterator leaves: all below B as it was, and the cells outside its own blocks -/
structure Kxs (B : Nat) (S : Nat → Prop) (A A' : World) : Prop where
  below : Below B A A'
  cells : ∀ (k : Nat) (o : Obj), A.heap[k]? = some o → o.isCells = true → ¬ S k → A'.heap[k]? = some o
/-- what a round leaves of the iterator's: its blocks' cells, and all book-keeping -/
structure Kcs (B : Nat) (S : Nat → Prop) (A A' : World) : Prop where
  others : KeepsFrom B A A'
  own : ∀ (k : Nat) (o : Obj), B ≤ k → S k → A.heap[k]? = some o → o.isCells = true → A'.heap[k]? = some o
/-- the iterator's blocks grow by young ones alone -/
def Gr (A : World) (S S' : Nat → Prop) : Prop := ∀ b, S' b → S b ∨ A.heap.size ≤ b
theorem Gr.refl (A : World) (S : Nat → Prop) : Gr A S S := fun _ h => .inl h
theorem Gr.old {A : World} {S S' : Nat → Prop} (h : Gr A S S') {b : Nat} (hb : b < A.heap.size) (hS : ¬ S b) : ¬ S' b := fun k => by
  rcases h b k with e | e
  · exact hS e
  · omega
theorem Gr.trans {X Y : World} {S S' S'' : Nat → Prop} (h : Gr X S S') (k : Gr Y S' S'') (hs : X.heap.size ≤ Y.heap.size) : Gr X S S'' := fun b e => by
  rcases k b e with z | z
  · exact h b z
  · exact .inr (by omega)
theorem Kxs.refl (B : Nat) (S : Nat → Prop) (A : World) : Kxs B S A A := ⟨Below.refl _ _, fun _ _ h _ _ => h⟩
theorem Kxs.size {B : Nat} {S : Nat → Prop} {X Y : World} (h : Kxs B S X Y) : X.heap.size ≤ Y.heap.size := h.below.size
theorem Kxs.trans {B : Nat} {S : Nat → Prop} {X Y Z : World} (h : Kxs B S X Y) (k : Kxs B S Y Z) : Kxs B S X Z := ⟨h.below.trans k.below, fun i o hi ho hS => k.cells i o (h.cells i o hi ho hS) ho hS⟩
/-- two steps, the blocks grown between them -/
theorem Kxs.grown {B : Nat} {S S' : Nat → Prop} {X Y Z : World} (h : Kxs B S X Y) (g : Gr X S S') (k : Kxs B S' Y Z) : Kxs B S X Z :=
  ⟨h.below.trans k.below, fun i o hi ho hS => k.cells i o (h.cells i o hi ho hS) ho (g.old (Array.getElem?_eq_some_iff.1 hi).1 hS)⟩
theorem Kxs.sm {B B' : Nat} {S : Nat → Prop} {X Y Z : World} (h : Kxs B S X Y) (k : Sm B' Y Z) (hB : B ≤ B') : Kxs B S X Z := ⟨h.below.trans (k.below.mono hB), fun i o hi ho hS => k.cells i o (h.cells i o hi ho hS) ho⟩
theorem Kxs.of_sm {B B' : Nat} {S : Nat → Prop} {X Y : World} (k : Sm B' X Y) (hB : B ≤ B') : Kxs B S X Y := (Kxs.refl B S X).sm k hB
/-- a step of the iterator: in its blocks, or in what is younger than the round -/
theorem Kxs.fr {B : Nat} {S : Nat → Prop} {X Y Z : World} {T : Nat → Prop} (h : Kxs B S X Y) (k : Fr T Y Z) (hT : ∀ b, T b → B ≤ b ∧ (S b ∨ X.heap.size ≤ b)) (hB : B ≤ X.heap.size) : Kxs B S X Z :=
  ⟨h.below.trans (k.below (Nat.le_trans hB h.size) (fun b e => (hT b e).1)), fun i o hi ho hS => by
    have hl : i < X.heap.size := (Array.getElem?_eq_some_iff.1 hi).1
    exact (k.block i (Nat.lt_of_lt_of_le hl h.size) (fun e => by
      rcases (hT i e).2 with z | z
      · exact hS z
      · omega)).trans (h.cells i o hi ho hS)⟩
theorem Kxs.of_below {B : Nat} {S : Nat → Prop} {X Y : World} (k : Below X.heap.size X Y) (hB : B ≤ X.heap.size) : Kxs B S X Y :=
  ⟨k.mono hB, fun i o hi _ _ => (k.block i (Array.getElem?_eq_some_iff.1 hi).1).trans hi⟩
theorem Kcs.refl (B : Nat) (S : Nat → Prop) (A : World) : Kcs B S A A := ⟨KeepsFrom.refl _ _, fun _ _ _ _ h _ => h⟩
theorem Kcs.trans {B : Nat} {S : Nat → Prop} {X Y Z : World} (h : Kcs B S X Y) (k : Kcs B S Y Z) : Kcs B S X Z := ⟨h.others.trans k.others, fun i o a b c d => k.own i o a b (h.own i o a b c d) d⟩
theorem Kcs.less {B : Nat} {S S' : Nat → Prop} {X Y : World} (h : Kcs B S X Y) (k : ∀ b, S' b → S b) : Kcs B S' X Y := ⟨h.others, fun i o a b => h.own i o a (k i b)⟩
theorem Kcs.fr {B : Nat} {S : Nat → Prop} {X Y : World} {T : Nat → Prop} (k : Fr T X Y) (hT : ∀ b, T b → b < B ∨ ¬ S b) : Kcs B S X Y :=
  ⟨k.keeps B, fun i o hB hS hi ho => (k.block i (Array.getElem?_eq_some_iff.1 hi).1 (fun e => by
    rcases hT i e with z | z
    · omega
    · exact z hS)).trans hi⟩
theorem Kcs.of_below {B : Nat} {S : Nat → Prop} {X Y : World} (k : Below X.heap.size X Y) : Kcs B S X Y := Kcs.fr (T := fun _ => False) (Fr.of_below k) (fun _ h => h.elim)
theorem Kcs.putObj {B l : Nat} {S : Nat → Prop} {X : World} (o : Obj) (h : l < B) : Kcs B S X (X.putObj l o) :=
  ⟨⟨by simp [World.putObj], fun k x hk hx _ => (World.putObj_heap_other (by omega)).trans hx⟩, fun k x hB _ hx _ => (World.putObj_heap_other (by omega)).trans hx⟩
theorem Kcs.cell {B : Nat} {S : Nat → Prop} {X Y : World} (h : Kcs B S X Y) {p : Addr} {v : Value} (hc : X.cell? p = some v) (h1 : B ≤ p.block) (h2 : S p.block) : Y.cell? p = some v := by
  obtain ⟨o, ho, hx⟩ := isCells_of_cell hc
  exact (World.cell?_of_block ((h.own _ _ h1 h2 ho hx).trans ho.symm)).trans hc
/-- what such an iterator is asked -/
def ItGs (P : Program) (gf : Nat) (bound : Array Value) (Col : World → Prop) (E : (Nat → Prop) → Nat → Array Value → World → Prop) (nn : Nat) (w : World) : Prop :=
  ∀ (l : Nat) (J : (Nat → Prop) → Nat → World → Prop) (W : World), Below w.heap.size w W →
    (∀ H H' k A A', J H k A → Kxs W.heap.size H A A' → Gr A H H' → J H' k A') → (∀ H k A, J H k A → Col A) →
    (∀ H W0, Below W.heap.size W W0 → (∀ b, H b → W.heap.size ≤ b) → J H 0 W0) →
    (∀ H k A args, J H k A → k < nn → E H k args A → YieldAt Fence.wide 0 P l args A fun e A' => e = .returned (.bool true) ∧ J H (k + 1) A' ∧ Kcs W.heap.size H A A') →
    CallsIn Fence.wide 0 P gf (bound ++ #[.func (.yield l) #[] #[]]) W fun e A => (∃ v, e = .returned v) ∧ ∃ H, J H nn A
/-- one round of the range over it -/
theorem yield_roundS {P : Program} {ps : Array Tmp} {assign body : Code} {a : Act} {B l dl : Nat} {fn : FuncId} {args : Array Value} (hps : args.size = ps.size)
    {I' : World → Prop} (hI' : ∀ A r o, I' A → A.heap[l]? = some (.loop r) → I' (A.putObj l (.loop o))) {Hh : World → Prop} (hH : ∀ A B', Hh A → KeepsFrom B A B' → Hh B') (hHp : ∀ A o, Hh A → Hh (A.putObj l o))
    {rec : LoopState → Option Code → Loop} (hrec : rec = fun st pe => { state := st, pending := pe, fn, tmps := a.tmps, params := ps, assign, body, defers := dl }) (hBl : B ≤ l)
    {W : World} (hl : W.heap[l]? = some (.loop (rec .ready none))) (hh : Hh W)
    (hround : assign.wpIn (Fence.wide.inRound l) 0 P (Exit.then (fun a₁ W₁ => KeepsFrom B W W₁ ∧ ∀ W₂, Sm B W₁ W₂ → (∀ (B' : Nat) (H' : Nat → Prop), l < B' → Kcs B' H' W₁ W₂) → (∃ r, W₂.heap[l]? = some (.loop r)) → body.wpIn (Fence.wide.inRound l) 0 P (rdPost B I' (fun _ _ => False) W₂) a₁ W₂) (fun _ _ _ => False))
      { tmps := (ps.zip args).foldl (fun t (p, v) => t.setIfInBounds p v) a.tmps, defers := [] } W) :
    YieldAt Fence.wide 0 P l args W fun e W' => e = .returned (.bool true) ∧ I' W' ∧ W'.heap[l]? = some (.loop (rec .ready none)) ∧ Hh W' := by
  have hy := run_yield (P := P) (args := args) hl (by rw [hrec]; exact hps)
  rw [hrec] at hy
  refine ⟨fn, _, assign, body, hy, roundIn_of_wpIn trivial (wpIn_mono hround ?_)⟩
  intro e a₁ W₁ q
  cases e with
  | normal =>
    obtain ⟨hk1, hb⟩ := q
    have hl1 := hk1.same _ _ hBl hl rfl
    have hh1 := hH _ _ hh hk1
    refine ⟨_, run_beginRound hl1 (by rw [hrec]), ?_⟩
    have hlt : l < W₁.heap.size := (Array.getElem?_eq_some_iff.1 hl1).1
    have hl2 : (W₁.putObj l (.loop { rec .ready none with state := .busy })).heap[l]? = some (.loop { rec .ready none with state := .busy }) := World.putObj_heap_same hlt
    refine wpIn_mono (hb _ (Sm.putObj _ hl1 rfl hBl) (fun B' H' h => Kcs.putObj _ h) ⟨_, hl2⟩) ?_
    rintro e a3 W3 hp
    cases e with
    | normal =>
      obtain ⟨hk3, hi3⟩ := hp
      have hl3 := hk3.same _ _ hBl hl2 rfl
      have hr := run_endRound (P := P) none hl3
      have hr' : (Instr.endRound l none).run P W3 = .ok (.bool true) (W3.putObj l (.loop (rec .ready none))) := by rw [hrec] at hr ⊢; exact hr
      exact ⟨_, _, hr', rfl, hI' _ _ _ hi3 hl3, World.putObj_heap_same (Array.getElem?_eq_some_iff.1 hl3).1, hHp _ _ (hH _ _ (hHp _ _ hh1) hk3)⟩
    | ret => exact hp.2.elim
    | exit id => exact hp.2.elim
    | goto t => exact hp.2.elim
    | panic ch => exact hp.elim
    | outgrown => exact hp.elim
  | exit id => exact q.elim
  | goto t => exact q.elim
  | ret => exact q.elim
  | panic ch => exact q.elim
  | outgrown => exact q.elim
/-- the statement, not within a round -/
theorem wp_range_outS {P : Program} {g : Operand} {ps : Array Tmp} {assign body : Code} {Q : Exit → Act → World → Prop} {a : Act} {w : World} {gf : Nat} {bound : Array Value}
    (hg : a.eval g = .func (.func gf) bound #[]) (eg : ∀ args w, (callFunc gf args).run P w = .ok (.enter gf args) w)
    {Col : World → Prop} {E : (Nat → Prop) → Nat → Array Value → World → Prop} {nn : Nat} (hit : ItGs P gf bound Col E nn w) (hps : ∀ H k args A, E H k args A → args.size = ps.size)
    (I : (Nat → Prop) → Nat → World → Prop) (hI : ∀ H H' k A B, I H k A → Kxs (w.heap.size + 2) H A B → Gr A H H' → I H' k B) (hIs : ∀ H k A B, I H k A → Sm w.heap.size A B → I H k B) (hcol : ∀ H k A, I H k A → Col A)
    (h0 : ∀ H W0, Below w.heap.size w W0 → w.heap.size + 2 ≤ W0.heap.size → (∀ b, H b → w.heap.size + 2 ≤ b) → I H 0 W0)
    (hround : ∀ l H k W args, w.heap.size ≤ l → l < w.heap.size + 2 → w.heap.size + 2 ≤ W.heap.size → I H k W → k < nn → E H k args W →
      assign.wpIn (Fence.wide.inRound l) 0 P (Exit.then (fun a₁ W₁ => KeepsFrom w.heap.size W W₁ ∧ ∀ W₂, Sm w.heap.size W₁ W₂ → (∀ (B' : Nat) (H' : Nat → Prop), l < B' → Kcs B' H' W₁ W₂) → (∃ r, W₂.heap[l]? = some (.loop r)) →
        body.wpIn (Fence.wide.inRound l) 0 P (rdPost w.heap.size (fun W' => I H (k + 1) W' ∧ Kcs (w.heap.size + 2) H W W') (fun _ _ => False) W₂) a₁ W₂) (fun _ _ _ => False))
      { tmps := (ps.zip args).foldl (fun t (p, v) => t.setIfInBounds p v) a.tmps, defers := [] } W)
    (hdone : ∀ (D : Nat) (H : Nat → Prop) (W : World), w.heap.size ≤ D → I H nn W → W.heap[D]? = some (.deferred (some [])) → Q .normal { a with defers := { target := .collected D, args := #[] } :: a.defers } W) :
    (Code.rangeFunc g ps assign body).wp P Q a w := by
  refine wpIn_wide.1 (wpIn_rangeFunc (n := 0) ?_)
  intro fn _
  obtain ⟨rec, hrec⟩ : ∃ rec : LoopState → Option Code → Loop, rec = fun st pe => { state := st, pending := pe, fn, tmps := a.tmps, params := ps, assign, body, defers := w.heap.size } := ⟨_, rfl⟩
  obtain ⟨W1, hW1⟩ : ∃ W1, (w.alloc (.deferred (some []))).alloc (.loop (rec .ready none)) = W1 := ⟨_, rfl⟩
  have hb1 : Below w.heap.size w W1 := by rw [← hW1]; exact ((Below.refl _ w).alloc (Nat.le_refl _) _).alloc (by simp) _
  have hz1 : W1.heap.size = w.heap.size + 2 := by rw [← hW1]; simp
  have hL1 : W1.heap[w.heap.size + 1]? = some (.loop (rec .ready none)) := by
    rw [← hW1]; have := World.alloc_heap_new (w.alloc (.deferred (some []))) (.loop (rec .ready none)); rwa [World.size_alloc] at this
  have hK1 : W1.heap[w.heap.size]? = some (.deferred (some [])) := by
    rw [← hW1]; exact (Below.heap_alloc _ _ _ (by simp)).trans (World.alloc_heap_new w _)
  refine ⟨w.heap.size + 1, [{ target := .collected w.heap.size, args := #[] }], W1, { target := .fn (.func gf) #[], args := bound ++ #[.func (.yield (w.heap.size + 1)) #[] #[]] }, W1, gf,
    bound ++ #[.func (.yield (w.heap.size + 1)) #[] #[]], W1, ?_, ?_, fun _ _ => trivial, ?_, (fun e => by cases e), ?_⟩
  · rw [← hW1, hrec]; exact run_enterLoop_outer _ _ _ _ _
  · simp only [resolve, hg]
    simp [go_sem]
  · simp [invoke, go_sem, eg]
  · refine (hit (w.heap.size + 1)
      (fun H k W => I H k W ∧ W.heap[w.heap.size + 1]? = some (.loop (rec .ready none)) ∧ W.heap[w.heap.size]? = some (.deferred (some [])) ∧ w.heap.size + 2 ≤ W.heap.size)
      W1 hb1 ?_ ?_ ?_ ?_).mono ?_
    · rintro H H' k A B ⟨h1, h2, h3, h4⟩ hb hg
      rw [hz1] at hb
      exact ⟨hI _ _ _ _ _ h1 hb hg, (hb.below.block _ (by omega)).trans h2, (hb.below.block _ (by omega)).trans h3, Nat.le_trans h4 hb.size⟩
    · rintro H k A ⟨h1, _⟩
      exact hcol _ _ _ h1
    · intro H W0 hb hH
      exact ⟨h0 H W0 (hb1.trans (hb.mono (by omega))) (by have := hb.size; omega) (fun b e => by have := hH b e; omega), (hb.block _ (by omega)).trans hL1, (hb.block _ (by omega)).trans hK1, by have := hb.size; omega⟩
    · rintro H k W args ⟨h1, h2, h3, h4⟩ hk hE
      rw [hz1]
      refine (yield_roundS (P := P) (ps := ps) (assign := assign) (body := body) (a := a) (B := w.heap.size) (l := w.heap.size + 1) (dl := w.heap.size) (fn := fn) (args := args) (hps _ _ _ _ hE)
        (I' := fun W' => I H (k + 1) W' ∧ Kcs (w.heap.size + 2) H W W') (fun A r o h hl => ⟨hIs _ _ _ _ h.1 (Sm.putObj _ hl rfl (by omega)), h.2.trans (Kcs.putObj _ (by omega))⟩)
        (Hh := fun W => W.heap[w.heap.size]? = some (.deferred (some [])) ∧ w.heap.size + 2 ≤ W.heap.size) (fun A B h hk => ⟨hk.same _ _ (Nat.le_refl _) h.1 rfl, Nat.le_trans h.2 hk.size⟩) (fun A o h => ⟨(World.putObj_heap_other (by omega)).trans h.1, by simpa [World.putObj] using h.2⟩) hrec (by omega) h2 ⟨h3, h4⟩
        (hround _ H k W args (by omega) (by omega) h4 h1 hk hE)).mono ?_
      rintro e W' ⟨e1, ⟨h1, hc⟩, h2, h3, h4⟩
      exact ⟨e1, ⟨h1, h2, h3, h4⟩, hc⟩
    · rintro e W2 ⟨⟨v, rfl⟩, H, hi, hl, hk, _⟩
      exact ⟨none, _, by have := run_endLoop (P := P) hl (by rw [hrec]; simp); rw [hrec] at this; exact this, hdone _ H _ (Nat.le_refl _) (hIs _ _ _ _ hi (Sm.putObj _ hl rfl (by omega))) ((World.putObj_heap_other (by omega)).trans hk)⟩
end Go.Proofs.Ytcbgcochpflblaa
namespace Go.Proofs.Ytcbgcochpflblaa
open Go.RowKit
set_option linter.unusedVariables false
section
variable {F : Fence} {n : Nat} {P : Program} {ops : Array Oper} {Q : Exit → Act → World → Prop} {md : Region.Mode} {S : World → Prop}
theorem yieldsIf_opIn {i : Nat} {o : Oper} {v : Value} {a : Act} (hF : ∀ f, F.fn f) (hn : noDefer ops = true) (hi : ops[i]? = some o) (hy : YieldsIf P ops S o v a)
    {K : Act → World → Prop} {w : World} (hS : S w) (h : K (a.put o.dst v) w) : wpOpIn F n P ops Q i K a w := by
  unfold Go.wpOpIn
  simp only [hi]
  rcases hy with ⟨hw, hv⟩ | ⟨hw, rfl⟩
  · simp only [hw, if_true]
    unfold Oper.wpIn
    rw [Oper.semAt_plain F _ _ (noDefer_at hn hi), hv w hS]
    exact ⟨fun _ _ => hF _, h⟩
  · simp only [hw, Bool.false_eq_true, if_false]
    exact ⟨fun _ _ => hF _, h⟩
theorem opIn_putIf {j : Nat} {oi oj : Oper} {v : Value} (hF : ∀ f, F.fn f) (hn : noDefer ops = true) (hj : ops[j]? = some oj) (hap : oi.apart ops oj = true)
    (hsi : ∀ cs b, oi.op ≠ .select cs b) (hsj : ∀ cs b, oj.op ≠ .select cs b)
    (hQ : ∀ c a w, Q (.panic c) (a.put oi.dst v) w → Q (.panic c) a w) {K : Act → World → Prop} {a : Act} {w : World}
    (hy : YieldsIf P ops S oi v a) (h : wpOpIn F n P ops Q j K (a.put oi.dst v) w) :
    wpOpIn F n P ops Q j (fun a' w' => YieldsIf P ops S oi v a' ∧ K (a'.put oi.dst v) w') a w := by
  obtain ⟨h1, h2, h3⟩ := Oper.apart_spec hap
  have hnd := noDefer_at hn hj
  have keep : ∀ (a : Act), YieldsIf P ops S oi v a → ∀ u, YieldsIf P ops S oi v (a.put oj.dst u) := fun a hy u =>
    hy.of_same (execOp_put oi hsi a oj.dst u h3) (wanted_put oi a oj.dst u h3)
  have keepD : ∀ d, YieldsIf P ops S oi v { a with defers := d :: a.defers } := fun d => hy.of_same rfl rfl
  unfold wpOpIn at h ⊢
  simp only [hj] at h ⊢
  rw [wanted_put oj a oi.dst v h1] at h
  split
  · rename_i hw
    simp only [hw, if_true] at h
    unfold Oper.wpIn at *
    refine ⟨fun _ _ => hF _, ?_⟩
    have h := h.2
    rw [Oper.semAt_plain F _ _ hnd, execOp_put oj hsj a oi.dst v h1] at h
    rw [Oper.semAt_plain F _ _ hnd]
    generalize (execOp a.eval oj).run P w = r at *
    cases r with
    | ok x w' =>
      cases x <;> simp only [Oper.uponIn] at h ⊢
      case value u => exact ⟨keep a hy u, by rw [← Act.put_comm a v u h2]; exact h⟩
      case skip => exact ⟨keep a hy _, by rw [← Act.put_comm a v undef h2]; exact h⟩
      case defer d =>
        refine ⟨keep _ (keepD d) _, ?_⟩
        rw [← Act.put_comm _ v undef h2, ← Act.put_defers]
        exact h
      case enter f args =>
        refine ⟨h.1, CallsIn.mono h.2 fun e w'' he => ?_⟩
        cases e with
        | returned u => exact ⟨keep a hy u, by rw [← Act.put_comm a v u h2]; exact he⟩
        | panicked c => exact hQ _ _ _ he
        | outgrown => exact he
      case row row args => exact ⟨h.1, RowsIn.mono h.2 fun u w'' he => ⟨keep a hy u, by rw [← Act.put_comm a v u h2]; exact he⟩⟩
      case round l f tmps assign body =>
        refine ⟨h.1, RoundIn.mono h.2 fun e w'' he => ?_⟩
        cases e with
        | returned u => exact ⟨keep a hy u, by rw [← Act.put_comm a v u h2]; exact he⟩
        | panicked c => exact hQ _ _ _ he
        | outgrown => exact he
    | halt x w' =>
      cases x <;> simp only [Oper.uponIn] at h ⊢
      case panic u => exact hQ _ _ _ h
  · rename_i hw
    simp only [hw] at h
    exact ⟨fun _ _ => hF _, keep a hy _, by rw [← Act.put_comm a v undef h2]; exact h.2⟩
/-- whatever order is picked, the condition holding behind each operation -/
def anyIH (F : Fence) (n : Nat) (P : Program) (md : Region.Mode) (ops : Array Oper) (Q : Exit → Act → World → Prop) (S : World → Prop) : Nat → Array Bool → Act → World → Prop
  | 0, listed, a, w => Region.ready md ops listed = [] ∧ Q .normal a w
  | fuel + 1, listed, a, w =>
    (Region.ready md ops listed = [] → Q .normal a w) ∧
    ∀ i ∈ Region.ready md ops listed, wpOpIn F n P ops Q i (fun a' w' => S w' ∧ anyIH F n P md ops Q S fuel (listed.setIfInBounds i true) a' w') a w
theorem anyIn_of_IH : ∀ (fuel : Nat) (listed : Array Bool) (a : Act) (w : World), anyIH F n P md ops Q S fuel listed a w → wpAnyIn F n P md ops Q fuel listed a w
  | 0, _, _, _, h => h
  | fuel + 1, _, _, _, h => ⟨h.1, fun i hi => wpOpIn_mono (fun a' w' h' => anyIn_of_IH fuel _ a' w' h'.2) (h.2 i hi)⟩
theorem anyIH_first {i : Nat} {oi : Oper} {v : Value} (hF : ∀ f, F.fn f) (hn : noDefer ops = true) (hi : ops[i]? = some oi) (hsel : ∀ (j : Nat) (o : Oper) cs b, ops[j]? = some o → o.op ≠ .select cs b)
    (hQ : ∀ c a w, Q (.panic c) (a.put oi.dst v) w → Q (.panic c) a w) :
    ∀ (fuel : Nat) (listed : Array Bool) (a : Act) (w : World),
      (∀ j oj, ops[j]? = some oj → j ≠ i → listed.getD j true = false → (∀ e ∈ oj.after, Region.binds md e = true → e.on ≠ i) → oi.apart ops oj = true) →
      i ∈ Region.ready md ops listed → YieldsIf P ops S oi v a → S w →
      anyIH F n P md ops Q S fuel (listed.setIfInBounds i true) (a.put oi.dst v) w → anyIH F n P md ops Q S (fuel + 1) listed a w := by
  intro fuel
  induction fuel with
  | zero =>
    intro listed a w _ hr hy hS H
    refine ⟨fun h => (by rw [h] at hr; cases hr), fun j hj => ?_⟩
    by_cases hji : j = i
    · subst hji; exact yieldsIf_opIn hF hn hi hy hS ⟨hS, H⟩
    · have := ready_mono hj hji
      rw [H.1] at this
      cases this
  | succ fuel ih =>
    intro listed a w hfree hr hy hS H
    refine ⟨fun h => (by rw [h] at hr; cases hr), fun j hj => ?_⟩
    by_cases hji : j = i
    · subst hji; exact yieldsIf_opIn hF hn hi hy hS ⟨hS, H⟩
    · have h1 := H.2 j (ready_mono hj hji)
      obtain ⟨hjun, oj, hoj, hall⟩ := mem_ready.1 hj
      have hnot : ∀ e ∈ oj.after, Region.binds md e = true → e.on ≠ i := fun e he hb heq => by
        have h1 := hall e he hb
        have h0 := (mem_ready.1 hr).1
        rw [heq] at h1
        rcases Nat.lt_or_ge i listed.size with h' | h'
        · simp [h'] at h0 h1; rw [h0] at h1; cases h1
        · simp [Array.getElem?_eq_none h'] at h1
      have h2 := opIn_putIf hF hn hoj (hfree j oj hoj hji hjun hnot) (fun cs b => hsel i oi cs b hi) (fun cs b => hsel j oj cs b hoj) hQ hy h1
      have hfree' : ∀ k ok, ops[k]? = some ok → k ≠ i → (listed.setIfInBounds j true).getD k true = false →
          (∀ e ∈ ok.after, Region.binds md e = true → e.on ≠ i) → oi.apart ops ok = true := fun k ok hk hki hun hno => by
        refine hfree k ok hk hki ?_ hno
        by_cases hjk : j = k
        · subst hjk; exact hjun
        · rw [getD_set_ne true hjk] at hun; exact hun
      refine wpOpIn_mono (fun a' w' h3 => ⟨h3.2.1, ih (listed.setIfInBounds j true) a' w' hfree' (ready_mono hr (Ne.symm hji)) h3.1 h3.2.1 ?_⟩) h2
      rw [Array.setIfInBounds_comm _ _ hji]
      exact h3.2.2
theorem fn_wide : ∀ f, Fence.wide.fn f := fun _ => trivial
/-- a step: wanted -/
theorem ti (i : Nat) {o1 o2 o3 o4 o5 o6} {v : Value} {fuel : Nat} {listed : Array Bool} {a a' : Act} {w : World} (hS : S w)
    (h : anyIH F n P md ops Q S fuel (listed.setIfInBounds i true) a' w)
    (hi : ops[i]? = some (Oper.mk o1 o2 o3 o4 o5 o6) := by rfl)
    (hc : (Region.noSelect ops && (Region.free md ops listed i && ((Region.ready md ops listed).contains i && noDefer ops))) = true := by kernel_rfl)
    (hQ : ∀ c a w, Q (.panic c) (a.put (Oper.mk o1 o2 o3 o4 o5 o6).dst v) w → Q (.panic c) a w := by exact fun _ _ _ h => h)
    (hw : Region.wanted (Oper.mk o1 o2 o3 o4 o5 o6) (yielded ops a.tmps) = true := by rfl)
    (hv : ∀ w, S w → (execOp a.eval (Oper.mk o1 o2 o3 o4 o5 o6)).run P w = .ok (.value v) w := by (intro w s; (try dsimp only at s); go_simp; (try with_reducible rfl)))
    (he : a.put (Oper.mk o1 o2 o3 o4 o5 o6).dst v = a' := by ((try simp only [Act.put, List.setIfInBounds_toArray, List.set_cons_zero, List.set_cons_succ]); (try with_reducible rfl)))
    (hF : ∀ f, F.fn f := by exact fun _ => trivial) :
    anyIH F n P md ops Q S (fuel + 1) listed a w := by
  subst he
  simp only [Bool.and_eq_true] at hc
  exact anyIH_first hF hc.2.2.2 hi (Region.noSelect_spec hc.1) hQ fuel listed a w (Region.free_spec hi hc.2.1) (by simpa using hc.2.2.1) (.inl ⟨hw, hv⟩) hS h
theorem tni (i : Nat) {o1 o2 o3 o4 o5 o6} {fuel : Nat} {listed : Array Bool} {a a' : Act} {w : World} (hS : S w)
    (h : anyIH F n P md ops Q S fuel (listed.setIfInBounds i true) a' w)
    (hi : ops[i]? = some (Oper.mk o1 o2 o3 o4 o5 o6) := by rfl)
    (hc : (Region.noSelect ops && (Region.free md ops listed i && ((Region.ready md ops listed).contains i && noDefer ops))) = true := by kernel_rfl)
    (hQ : ∀ c a w, Q (.panic c) (a.put (Oper.mk o1 o2 o3 o4 o5 o6).dst undef) w → Q (.panic c) a w := by exact fun _ _ _ h => h)
    (hw : Region.wanted (Oper.mk o1 o2 o3 o4 o5 o6) (yielded ops a.tmps) = false := by rfl)
    (he : a.put (Oper.mk o1 o2 o3 o4 o5 o6).dst undef = a' := by ((try simp only [Act.put, List.setIfInBounds_toArray, List.set_cons_zero, List.set_cons_succ]); (try with_reducible rfl)))
    (hF : ∀ f, F.fn f := by exact fun _ => trivial) :
    anyIH F n P md ops Q S (fuel + 1) listed a w := by
  subst he
  simp only [Bool.and_eq_true] at hc
  exact anyIH_first hF hc.2.2.2 hi (Region.noSelect_spec hc.1) hQ fuel listed a w (Region.free_spec hi hc.2.1) (by simpa using hc.2.2.1) (.inr ⟨hw, rfl⟩) hS h
/-- one alone may come up -/
theorem tci (i : Nat) {fuel : Nat} {listed : Array Bool} {a : Act} {w : World}
    (h : wpOpIn F n P ops Q i (fun a' w' => S w' ∧ anyIH F n P md ops Q S fuel (listed.setIfInBounds i true) a' w') a w)
    (hr : Region.ready md ops listed = [i] := by kernel_rfl) :
    anyIH F n P md ops Q S (fuel + 1) listed a w := ⟨fun h0 => (by rw [hr] at h0; cases h0), fun j hj => by rw [hr, List.mem_singleton] at hj; subst hj; exact h⟩
theorem anyIH_done {listed : Array Bool} {a : Act} {w : World} (h : Q .normal a w) (hr : Region.ready md ops listed = [] := by kernel_rfl) :
    ∀ fuel, anyIH F n P md ops Q S fuel listed a w
  | 0 => ⟨hr, h⟩
  | _ + 1 => ⟨fun _ => h, by rw [hr]; simp⟩
/-- the region: within a fence -/
theorem regionIn_held {id : Nat} {a : Act} {w : World} (S : World → Prop) (hm : P.follows .mixedOrders = true) (hS : S w.drew)
    (h : S w.drew → anyIH F n P .any ops Q S ops.size (Array.replicate ops.size false) a w.drew) : (Code.region id ops true).wpIn F n P Q a w :=
  wpIn_region_any hm (anyIn_of_IH _ _ _ _ (h hS))
/-- a call of yield that is wanted: it says: go on -/
theorem opIn_yields {i l : Nat} {dst : Option Tmp} {x : Operand} {q : Operand} {ts : Array TypeId} {ty pos aft g} {a : Act} {w : World} {v0 : Value} {K : Act → World → Prop} {R : Ending → World → Prop}
    (hi : ops[i]? = some (Oper.mk dst (.call { callee := .value x, args := #[q], argTypes := ts }) ty pos aft g)) (hn : noDefer ops = true)
    (hw : Region.wanted (Oper.mk dst (.call { callee := .value x, args := #[q], argTypes := ts }) ty pos aft g) (yielded ops a.tmps) = true)
    (hx : a.eval x = .func (.yield l) #[] #[]) (hp : a.eval q = v0) (hd : F.depth = none)
    (hY : YieldAt Fence.wide 0 P l #[v0] w R) (hw0 : F = Fence.wide) (hn0 : n = 0) (hK : ∀ e w', R e w' → ∃ v, e = .returned v ∧ K (a.put dst v) w') : wpOpIn F n P ops Q i K a w := by
  subst hw0 hn0
  obtain ⟨fn, tmps, assign, body, hy, hR⟩ := hY
  unfold Go.wpOpIn
  simp only [hi]
  rw [if_pos hw]
  unfold Oper.wpIn
  refine ⟨fun _ _ => trivial, ?_⟩
  rw [Oper.semAt_plain Fence.wide _ _ (noDefer_at hn hi)]
  have e : (execOp a.eval (Oper.mk dst (.call { callee := .value x, args := #[q], argTypes := ts }) ty pos aft g)).run P w = .ok (.round l fn tmps assign body) w := by
    have hm : (#[q] : Array Operand).map a.eval = #[v0] := by simp [hp]
    simp only [execOp, resolve, hx, hm]
    simp [go_sem, invoke, hy]
  rw [e, Oper.uponIn_round]
  refine ⟨(fun e => by cases e), hR.mono ?_⟩
  intro e w' h
  obtain ⟨v, rfl, h2⟩ := hK e w' h
  exact h2
end
end Go.Proofs.Ytcbgcochpflblaa
namespace Go.Proofs.Ytcbgcochpflblaa
open Go.RowKit Go.Shelf
set_option linter.unusedVariables false
set_option linter.unusedSimpArgs false
def bpIn (N : Nat) (U : Nat → Int) (i : Nat) : List Nat := (List.range N).filter (Mt U (U (i * 5 + 1)) (U (i * 5 + 2)) (U (i * 5 + 3)) (U (i * 5 + 4)))
def bpOf (i : Nat) (l : List Nat) : List (Nat × Nat) := (l.filter (fun j => decide (i < j))).map (fun j => (i, j))
def bpL (N : Nat) (U : Nat → Int) : Nat → List (Nat × Nat)
  | 0 => []
  | i + 1 => bpL N U i ++ bpOf i (bpIn N U i)
theorem bpL_pre (N : Nat) (U : Nat → Int) {i : Nat} : ∀ {m : Nat}, i ≤ m → ∃ r, bpL N U m = bpL N U i ++ r
  | 0, h => ⟨[], by obtain rfl : i = 0 := (by omega); simp⟩
  | m + 1, h => by
    by_cases e : i = m + 1
    · subst e; exact ⟨[], by simp⟩
    · obtain ⟨r, hr⟩ := bpL_pre N U (m := m) (i := i) (by omega)
      exact ⟨r ++ bpOf m (bpIn N U m), by rw [bpL, hr, List.append_assoc]⟩
theorem bpOf_next {i p j : Nat} {l : List Nat} (h : l[p]? = some j) : bpOf i (l.take (p + 1)) = bpOf i (l.take p) ++ (if i < j then [(i, j)] else []) := by
  rw [List.take_add_one, h]
  unfold bpOf
  rw [List.filter_append, List.map_append]
  congr 1
  by_cases e : i < j <;> simp [List.filter, e]
theorem bpOf_at {N : Nat} {U : Nat → Int} {i p j : Nat} (hi : i < N) (h : (bpIn N U i)[p]? = some j) (hj : i < j) : (bpL N U N)[(bpL N U i ++ bpOf i ((bpIn N U i).take p)).length]? = some (i, j) := by
  obtain ⟨r, hr⟩ := bpL_pre N U (i := i + 1) (m := N) (by omega)
  have hl : p < (bpIn N U i).length := (List.getElem?_eq_some_iff.1 h).1
  have e : bpIn N U i = (bpIn N U i).take (p + 1) ++ (bpIn N U i).drop (p + 1) := (List.take_append_drop _ _).symm
  have e2 : bpOf i (bpIn N U i) = bpOf i ((bpIn N U i).take p) ++ ([(i, j)] ++ bpOf i ((bpIn N U i).drop (p + 1))) := by
    have : bpOf i (bpIn N U i) = bpOf i ((bpIn N U i).take (p + 1)) ++ bpOf i ((bpIn N U i).drop (p + 1)) := by
      unfold bpOf
      rw [← List.map_append, ← List.filter_append, List.take_append_drop]
    rw [this, bpOf_next h, if_pos hj, List.append_assoc]
  rw [hr, bpL, e2, ← List.append_assoc, List.append_assoc, List.getElem?_append_right (Nat.le_refl _), Nat.sub_self]
  rfl
/-- the tree and its boxes, while it is asked -/
def PrC (tb N ci base : Nat) (ai : Option Addr) (U : Nat → Int) (v : Value) (A : World) : Prop :=
  Flat A ai (N * 5) U ∧ A.cell? ⟨tb, 0, none⟩ = some (.slice ai N ci) ∧ A.cell? ⟨tb, 1, none⟩ = some v ∧ Tree A base N U v
def PrE (N : Nat) (U : Nat → Int) (H : Nat → Prop) (k : Nat) (args : Array Value) (A : World) : Prop :=
  (∃ i j, (bpL N U N)[k]? = some (i, j) ∧ args = #[.agg #[.int .i64 (U (i * 5)), .int .i64 (U (j * 5))]]) ∧ ∀ b, H b → b < A.heap.size
def PrR (A : World) (lo hi : Nat) (ar : Option Addr) (nr : Nat) (l : List Nat) : Prop :=
  ∀ (q j : Nat), l[q]? = some j → ∃ g, ar = some ⟨g, 0, none⟩ ∧ lo ≤ g ∧ g < hi ∧ A.cell? ⟨g, q, none⟩ = some (.int .i64 (j : Int))
theorem PrR.kcs {A A' : World} {B lo hi nr : Nat} {ar : Option Addr} {l : List Nat} (h : PrR A lo hi ar nr l) (k : Kcs B (fun b => lo ≤ b ∧ b < hi) A A') (hB : B ≤ lo) : PrR A' lo hi ar nr l := fun q j hq => by
  obtain ⟨g, e, h1, h2, hc⟩ := h q j hq
  exact ⟨g, e, h1, h2, k.cell hc (by show B ≤ g; omega) ⟨h1, h2⟩⟩
theorem PrR.of_li {A : World} {lo nr cr : Nat} {ar : Option Addr} {l : List Nat} (h : LI A lo (.slice ar nr cr) nr (l.map Int.ofNat)) : PrR A lo A.heap.size ar nr l := fun q j hq => by
  have hl : q < l.length := (List.getElem?_eq_some_iff.1 hq).1
  have hj := (List.getElem?_eq_some_iff.1 hq).2
  rcases h.is with ⟨e, -, -⟩ | ⟨g, c, e, -⟩
  · have : l.map Int.ofNat = [] := e
    rw [List.map_eq_nil_iff] at this
    subst this; simp at hl
  · cases e
    have hb := h.lt g rfl
    have hc := h.cell (q := q) (by simpa using hl)
    refine ⟨g, rfl, hb.1, hb.2, hc.trans ?_⟩
    rw [List.getElem_map, hj]
    rfl
theorem pairs_enters : ∀ args w, (callFunc 22 args).run Try.prog w = .ok (.enter 22 args) w := enters_of Try.func22 (by kernel_rfl) rfl
set_option maxRecDepth 20000 in
set_option maxHeartbeats 4000000 in
theorem pairs_it (tb N ci base : Nat) (ai : Option Addr) (U : Nat → Int) (v : Value) (w : World) (hN : N ≤ 24) :
    ItGs Try.prog 22 #[.pointer (some ⟨tb, 0, none⟩)] (PrC tb N ci base ai U v) (PrE N U) (bpL N U N).length w := by
  intro l J W hbW hJ hJc hJ0 hY
  have hset := cset_map
  refine callsIn_of_wp Try.func22 rfl trivial ?_ rfl
  simp only [Try.ntmps22, List.size_toArray, List.length_cons, List.length_nil, Nat.reduceAdd, Nat.reduceSub, Array.replicate_succ, Array.replicate_zero, List.push_toArray, List.append_toArray, List.nil_append, List.cons_append]
  have hJs := hJ0 (fun _ => False) W (Below.refl _ _) (fun _ h => h.elim)
  have c0 := (hJc _ _ _ hJs).2.1
  gi_wp2
  clear c0
  gi_loopw [4, 5, 7, 13] (fun _ _ _ i wr => ∃ (k : Nat) (S : Nat → Prop), k ≤ N ∧ i = .int .i64 (k : Int) ∧ J S (bpL N U k).length wr ∧ W.heap.size ≤ wr.heap.size) (fun _ _ _ i _ => N - (intOf i).toNat)
  case atStart => exact ⟨0, _, Nat.zero_le _, rfl, hJs, Nat.le_refl _⟩
  case round =>
    clear hJs
    obtain ⟨k, S, hk, rfl, hJk, hsz⟩ := hrel
    by_cases hlt : k < N
    · obtain ⟨hF, t0, t1, hT⟩ := hJc _ _ _ hJk
      obtain ⟨g, o, rfl, hg, hc⟩ := hF (by omega)
      have e0 := hc (k * 5) (by omega)
      have e1 := hc (k * 5 + 1) (by omega)
      have e2 := hc (k * 5 + 2) (by omega)
      have e3 := hc (k * 5 + 3) (by omega)
      have e4 := hc (k * 5 + 4) (by omega)
      gi_upto_region 2 with fail
      gi_cut [4, 5] from 14 (fun si sx wc => ∃ bx, si = .int .i64 (k : Int) ∧ sx = .pointer (some ⟨bx, 0, none⟩) ∧ wr.heap.size ≤ bx ∧ bx < wc.heap.size ∧ Below wr.heap.size wr wc ∧ wc.cell? ⟨bx, 0, none⟩ = some (.int .i64 (U (k * 5))) ∧ wc.cell? ⟨bx, 1, none⟩ = some (.int .i64 (U (k * 5 + 1))) ∧ wc.cell? ⟨bx, 2, none⟩ = some (.int .i64 (U (k * 5 + 2))) ∧ wc.cell? ⟨bx, 3, none⟩ = some (.int .i64 (U (k * 5 + 3))) ∧ wc.cell? ⟨bx, 4, none⟩ = some (.int .i64 (U (k * 5 + 4))))
      case first =>
        gi_wp2
        gi_meet
        exact ⟨wr.heap.size, rfl, rfl, Nat.le_refl _, by simp, bel_a, by go_simp, by go_simp, by go_simp, by go_simp, by go_simp⟩
      case rest =>
      obtain ⟨bx, rfl, rfl, hx1, hx2, hb1, x0, x1, x2, x3, x4⟩ := hcut
      clear e0 e1 e2 e3 e4 hc
      gi_upto_region 3 with fail
      gi_cut [22, 23, 24] from 14 (fun s22 s23 s24 wd => ∃ ar nr cr, s22 = .slice ar nr cr ∧ s23 = .int .i64 (nr : Int) ∧ s24 = .int .i64 0 ∧ nr = (bpIn N U k).length ∧ Below wr.heap.size wr wd ∧ wd.cell? ⟨bx, 0, none⟩ = some (.int .i64 (U (k * 5))) ∧ bx < wd.heap.size ∧ PrR wd wr.heap.size wd.heap.size ar nr (bpIn N U k))
      case first =>
        gi_wp2_with (first
          | (refine ⟨trivial, rfl, ?_⟩; gi_at_call 35; refine (callsIn_wide.2 (spanOf_any _ _ _ _ _)).mono ?_; rintro e w5 ⟨rfl, hb5⟩)
          | (refine ⟨trivial, rfl, ?_⟩; gi_at_call 34; refine (callsIn_wide.2 (meeting_any base tb _ N ci U v _ _ _ _ _ (hF.below (hb1.trans (hb5.mono hb1.size))) (keepc hb5 ((hb1.cell (p := ⟨tb, 0, none⟩) (cell_lt t0)).trans t0)) (keepc hb5 ((hb1.cell (p := ⟨tb, 1, none⟩) (cell_lt t1)).trans t1)) ((hT.below hb1).below hb5) hN)).mono ?_; rintro e w6 ⟨r, nr, zs, rfl, hL6, rfl, hb6⟩; obtain ⟨ar, cr, rfl⟩ := hL6.form))
        gi_meet
        have hb56 := hb1.trans ((hb5.trans (hb6.mono hb5.size)).mono hb1.size)
        have hs6 := hb56.size
        refine ⟨_, _, _, rfl, rfl, rfl, ?_, hb56, ?_, ?_, ?_⟩
        · exact hL6.1.symm.trans (by rw [List.length_map]; rfl)
        · exact (hb6.cell (p := ⟨bx, 0, none⟩) (Nat.lt_of_lt_of_le hx2 hb5.size)).trans ((hb5.cell (p := ⟨bx, 0, none⟩) hx2).trans x0)
        · exact Nat.lt_of_lt_of_le hx2 (Nat.le_trans hb5.size hb6.size)
        · exact fun q j hq => by
            obtain ⟨gq, eq, l1, l2, lc⟩ := PrR.of_li hL6 q j hq
            have := hb5.size
            have := hb1.size
            exact ⟨gq, eq, by omega, l2, lc⟩
      case rest =>
      clear hb1 x0 x1 x2 x3 x4 hx2
      obtain ⟨ar, nr, cr, rfl, rfl, rfl, hnr, hb1, x0, hx2, hR⟩ := hcut
      have hsd := hb1.size
      have hJ2 := hJ S (fun b => wr.heap.size ≤ b ∧ b < wc.heap.size) _ _ _ hJk (Kxs.of_below hb1 hsz) (fun b h => .inr h.1)
      have hJ3 : J (fun b => wr.heap.size ≤ b ∧ b < wc.heap.size) (bpL N U k ++ bpOf k ((bpIn N U k).take 0)).length wc := by
        have : bpOf k ((bpIn N U k).take 0) = [] := rfl
        rw [this, List.append_nil]; exact hJ2
      clear hJ2 hJk hF t0 t1 hT hb1 hg
      generalize hlo : wr.heap.size = lo at hR hJ3 hx1 hsz hsd
      generalize hhi : wc.heap.size = hi at hR hJ3 hx2 hsd
      gi_wp2
      gi_loopw [7, 24] (fun _ i wq => ∃ p : Nat, p ≤ nr ∧ i = .int .i64 (p : Int) ∧ J (fun b => lo ≤ b ∧ b < hi) (bpL N U k ++ bpOf k ((bpIn N U k).take p)).length wq ∧ PrR wq lo hi ar nr (bpIn N U k) ∧ wq.cell? ⟨bx, 0, none⟩ = some (.int .i64 (U (k * 5))) ∧ hi ≤ wq.heap.size) (fun _ i _ => nr - (intOf i).toNat)
      case atStart => exact ⟨0, Nat.zero_le _, rfl, hJ3, hR, x0, by omega⟩
      case round =>
        clear hJ3 hR x0
        obtain ⟨p, hp, rfl, hJp, hR, x0, hsq⟩ := hrel
        by_cases hpl : p < nr
        · have hpn : p < (bpIn N U k).length := by omega
          obtain ⟨j, hj⟩ : ∃ j, (bpIn N U k)[p]? = some j := ⟨_, List.getElem?_eq_getElem hpn⟩
          obtain ⟨gr, rfl, hg1, hg2, hrc⟩ := hR p j hj
          have hjN : j < N := by
            have := List.mem_of_getElem? hj
            unfold bpIn at this
            rw [List.mem_filter, List.mem_range] at this
            exact this.1
          obtain ⟨hF, t0, t1, hT⟩ := hJc _ _ _ hJp
          obtain ⟨g', o', e', hg', hc⟩ := hF (by omega)
          cases e'
          have y0 := hc (j * 5) (by omega)
          have hnx := bpOf_next (i := k) hj
          have hpN : p + 1 ≤ 24 := by have : (bpIn N U k).length ≤ (List.range N).length := List.length_filter_le _ _; rw [List.length_range] at this; omega
          by_cases hkj : k < j
          · have d1 : decide (k < j) = true := decide_eq_true hkj
            have d2 : decide ((k : Int) < (j : Int)) = true := decide_eq_true (by omega)
            have hat := bpOf_at hlt hj hkj
            rw [if_pos hkj] at hnx
            have hD : Below wr.heap.size wr wr.drew := Below.drew (Below.refl _ _)
            have hJd := hJ _ _ _ _ _ hJp (Kxs.of_below (B := W.heap.size) hD (by omega)) (Gr.refl _ _)
            have hyy := hY _ _ _ _ hJd (List.getElem?_eq_some_iff.1 hat).1 ⟨⟨k, j, hat, rfl⟩, fun b hb => by have := hb.2; show b < wr.heap.size; omega⟩
            gi_upto_region 6 with fail
            refine regionIn_held (fun w' => w'.cell? ⟨bx, 0, none⟩ = some (.int .i64 (U (k * 5))) ∧ w'.cell? ⟨tb, 0, none⟩ = some (.slice (some ⟨g, o, none⟩) N ci) ∧ w'.cell? ⟨g, o + j * 5, none⟩ = some (.int .i64 (U (j * 5)))) (by kernel_rfl) ⟨x0, t0, y0⟩ (fun hHeld => ?_)
            refine ti 0 hHeld ?_
            refine ti 1 hHeld ?_
            refine ti 2 hHeld ?_
            refine ti 3 hHeld ?_
            refine ti 4 hHeld ?_
            refine ti 5 hHeld ?_
            refine ti 6 hHeld ?_
            refine ti 7 hHeld ?_
            refine ti 8 hHeld ?_
            refine ti 9 hHeld ?_
            refine ti 10 hHeld ?_
            refine ti 11 hHeld ?_
            refine ti 12 hHeld ?_
            refine ti 13 hHeld ?_
            refine ti 14 hHeld ?_
            refine ti 15 hHeld ?_
            refine tci 16 (opIn_yields (v0 := .agg #[.int .i64 (U (k * 5)), .int .i64 (U (j * 5))]) rfl (by kernel_rfl) rfl rfl rfl rfl hyy rfl rfl ?_)
            rintro e X3 ⟨rfl, hJ3, hKc⟩
            obtain ⟨hF3, s0, s1, hT3⟩ := hJc _ _ _ hJ3
            obtain ⟨g3, o3, e3, hg3, hc3⟩ := hF3 (by omega)
            cases e3
            have r0 := hKc.cell (p := ⟨bx, 0, none⟩) x0 (by show W.heap.size ≤ bx; omega) ⟨hx1, hx2⟩
            have hHeld2 : X3.cell? ⟨bx, 0, none⟩ = some (.int .i64 (U (k * 5))) ∧ X3.cell? ⟨tb, 0, none⟩ = some (.slice (some ⟨g, o, none⟩) N ci) ∧ X3.cell? ⟨g, o + j * 5, none⟩ = some (.int .i64 (U (j * 5))) := ⟨r0, s0, hc3 _ (by omega)⟩
            refine ⟨_, rfl, hHeld2, ?_⟩
            refine ti 17 hHeld2 ?_
            refine ti 18 hHeld2 ?_
            refine anyIH_done ?_ (by kernel_rfl) _
            clear hHeld hHeld2
            gi_wp2
            go_roundw
            case rel => exact ⟨p + 1, by omega, by go_num, by rw [hnx, ← List.append_assoc, List.length_append]; exact hJ3, (show PrR wr.drew _ _ _ _ _ from hR).kcs hKc (by omega), r0, by have := hKc.others.size; simp at this; omega⟩
            case measure => simp [intOf]; omega
          · have d1 : decide (k < j) = false := decide_eq_false hkj
            have d2 : decide ((k : Int) < (j : Int)) = false := decide_eq_false (by omega)
            rw [if_neg hkj, List.append_nil] at hnx
            gi_upto_region 6 with fail
            refine regionIn_held (fun w' => w'.cell? ⟨bx, 0, none⟩ = some (.int .i64 (U (k * 5))) ∧ w'.cell? ⟨tb, 0, none⟩ = some (.slice (some ⟨g, o, none⟩) N ci) ∧ w'.cell? ⟨g, o + j * 5, none⟩ = some (.int .i64 (U (j * 5)))) (by kernel_rfl) ⟨x0, t0, y0⟩ (fun hHeld => ?_)
            refine ti 0 hHeld ?_
            refine ti 1 hHeld ?_
            refine ti 2 hHeld ?_
            refine ti 3 hHeld ?_
            refine tni 4 hHeld ?_
            refine tni 5 hHeld ?_
            refine tni 6 hHeld ?_
            refine tni 7 hHeld ?_
            refine tni 8 hHeld ?_
            refine tni 9 hHeld ?_
            refine tni 10 hHeld ?_
            refine tni 11 hHeld ?_
            refine tni 12 hHeld ?_
            refine tni 13 hHeld ?_
            refine tni 14 hHeld ?_
            refine tni 15 hHeld ?_
            refine tni 16 hHeld ?_
            refine tni 17 hHeld ?_
            refine ti 18 hHeld ?_
            refine anyIH_done ?_ (by kernel_rfl) _
            clear hHeld
            have hJd := hJ _ _ _ _ _ hJp (Kxs.of_below (B := W.heap.size) (Below.drew (Below.refl _ wr)) (by omega)) (Gr.refl _ _)
            gi_wp2
            go_roundw
            case rel => exact ⟨p + 1, by omega, by go_num, by rw [hnx]; exact hJd, hR, x0, hsq⟩
            case measure => simp [intOf]; omega
        · obtain rfl : p = nr := by omega
          gi_wp2
          go_roundw
          case rel =>
            refine ⟨k + 1, fun b => lo ≤ b ∧ b < hi, by omega, by go_num, ?_, by omega⟩
            rw [bpL]
            rwa [hnr, List.take_length] at hJp
          case measure => simp [intOf]; omega
    · obtain rfl : k = N := by omega
      gi_wp2
      go_end0
      exact ⟨⟨_, rfl⟩, S, hJk⟩
end Go.Proofs.Ytcbgcochpflblaa
namespace Go.Proofs.Ytcbgcochpflblaa
open Go.RowKit
set_option linter.unusedVariables false
set_option linter.unusedSimpArgs false

def ptB (a b c d x y : Int) : Bool := decide ((a ≤ x ∧ x ≤ c) ∧ (b ≤ y ∧ y ≤ d))
set_option maxHeartbeats 1000000 in
theorem l3Meets_any (a b c d r s t u : Int) (w : World) :
    Calls Try.prog 30 #[b4 a b c d, b4 r s t u] w fun e w' => e = .returned (.bool (leB a b t u && leB r s c d)) ∧ Below w.heap.size w w' := by
  have hset := cset_map
  go_enter Try.func30, Try.ntmps30
  go_wp2
  all_goals
    go_ret
    refine ⟨ret_bool ?_, bel_a⟩
    unfold leB
    first | (simp [*]; done) | (simp at *; omega) | (simp [*]; omega)

end Go.Proofs.Ytcbgcochpflblaa
