/- Bodies in columns: a one-row column of each number; what an append to an empty list leaves; how the state grows column by column. -/
import Derived.Test.YtpgoicdblbpcaaaVec
import Derived.Deep.AppendLies
import Derived.Deep.RegionHeld3
import Derived.Deep.DeepCutAuto
namespace Go.Proofs.Ytpgoicdblbpcaaa
open Go.RowKit
set_option linter.unusedVariables false
set_option linter.unusedSimpArgs false

theorem step_app_nil {P : Program} {w : World} {ops : Array Oper} {o : Oper} {a : Act} {K : Act → World → Prop} {Q : Exit → Act → World → Prop} {E : Prop} (hgd : o.guard = none) (s x : Operand) (t : TypeId)
    (ho : o.op = .call { callee := .builtin .append, args := #[s, x], argTypes := #[t, t] })
    (e : TypeId) (i : TypeInfo) (z : Value) (ht : P.underlying t = some (.slice e)) (hi : P.info? e = some i) (hz : i.zero = some z)
    (hsize : i.size = 1) (hby : i.bytes = 8) (hzs : z.cells.size = 1) (hs : a.eval s = .slice none 0 0)
    (B c : Nat) (v : Value) (hx : a.eval x = .slice (some ⟨B, 0, none⟩) 1 c) (hv : w.cell? ⟨B, 0, none⟩ = some v) (h1 : v.oneCell' = true) (H : Nat) (hH : w.heap.size = H)
    (h : ∀ cap w', Below w.heap.size w w' → w'.cell? ⟨H, 0, none⟩ = some v → w'.frozen? ⟨H, 0, none⟩ = false → H < w'.heap.size → K (a.put o.dst (.slice (some ⟨H, 0, none⟩) 1 cap)) w') :
    if Region.wanted o (yielded ops a.tmps) = true then Oper.wp P o a w K Q else E := by
  refine step_append_lies w hgd s x t ho w.heap.size e i z 1 8 ht hi hz hsize hby hzs (by omega) (.slice none 0 0) 0 [] hs (World.ownsRow_nil w _ e 1) ⟨B, 0, none⟩ 1 c [v] hx (by simp) ?_ (by simpa using h1) (by omega) (by unfold maxLen; omega) (by omega) (Nat.le_refl _) H hH ?_
  · intro j u hu
    cases j with
    | zero => simp at hu; subst hu; simpa [Addr.add] using hv
    | succ n => simp at hu
  · intro g cap w' hown hgrow hat hlt
    have hg : g = H := by
      rcases hat with q | q
      · cases q
      · exact q
    subst hg
    obtain ⟨_, hor⟩ := hown
    rcases hor with ⟨q, _⟩ | ⟨g', cap', cur, q, hbase, hblk, hn, hm, hcs, htk⟩
    · cases q
    · injection q with q1 q2 q3
      injection q1 with q1
      injection q1 with q1
      subst q1
      refine h cap w' ⟨hgrow.os, hgrow.tape, hgrow.output, hgrow.size, fun k hk => hgrow.block k hk (by simp [Value.ownBlock])⟩ ?_ (frozen_of_row w' _ 0 cur e hblk) hlt
      rw [cell_of_row w' _ 0 cur e (0, 0) hblk]
      simp at htk
      have : cur.toList[0]? = some v := by
        have := congrArg (fun l => l[0]?) htk
        simpa using this
      simpa using this

/-- a column of one row -/
def Col (w : World) (cb k g : Nat) (v : Int) : Prop := (∃ c, w.cell? ⟨cb, k, none⟩ = some (.slice (some ⟨g, 0, none⟩) 1 c)) ∧ w.cell? ⟨g, 0, none⟩ = some (.int .i64 v) ∧ w.frozen? ⟨g, 0, none⟩ = false

structure AddSt (w wx : World) (cb : Nat) (V : Nat → Int) (k : Nat) (G : Nat → Nat) : Prop where
  body : ∀ j, j < 12 → wx.cell? ⟨w.heap.size, j, none⟩ = some (.int .i64 (V j))
  did : ∀ i, i < k → Col wx cb i (G i) (V i)
  todo : ∀ i, k ≤ i → i < 12 → wx.cell? ⟨cb, i, none⟩ = some (.slice none 0 0)
  nf : ∀ i, i < 12 → wx.frozen? ⟨cb, i, none⟩ = false
  but : But cb w wx
  big : w.heap.size < wx.heap.size
  rng : ∀ i, i < k → w.heap.size < G i ∧ G i < wx.heap.size
  asc : ∀ i j, i < j → j < k → G i < G j

theorem Col.keep {w w' : World} {cb k g : Nat} {v : Int} (h : Col w cb k g v) (h1 : w'.cell? ⟨cb, k, none⟩ = w.cell? ⟨cb, k, none⟩) (h2 : w'.cell? ⟨g, 0, none⟩ = w.cell? ⟨g, 0, none⟩) (h3 : w'.frozen? ⟨g, 0, none⟩ = w.frozen? ⟨g, 0, none⟩) : Col w' cb k g v := by
  obtain ⟨⟨c, a⟩, b, d⟩ := h
  exact ⟨⟨c, h1.trans a⟩, h2.trans b, h3.trans d⟩

theorem AddSt.step {w wx w1 W0 : World} {cb k cap : Nat} {V : Nat → Int} {G : Nat → Nat} (h : AddSt w wx cb V k G) (hk : k < 12) (hcb : cb < w.heap.size)
    (hW : Below wx.heap.size wx W0) (hsz : W0.heap.size = wx.heap.size + 1) (hb : Below W0.heap.size W0 w1) (hc : w1.cell? ⟨wx.heap.size + 1, 0, none⟩ = some (.int .i64 (V k)))
    (hf : w1.frozen? ⟨wx.heap.size + 1, 0, none⟩ = false) (hl : wx.heap.size + 1 < w1.heap.size) :
    AddSt w (w1.setCell ⟨cb, k, none⟩ (.slice (some ⟨wx.heap.size + 1, 0, none⟩) 1 cap)) cb V (k + 1) (fun i => if i = k then wx.heap.size + 1 else G i) := by
  have q : Below wx.heap.size wx w1 := hW.trans (hb.mono (by omega))
  have big := h.big
  have cc : ∀ i, i < 12 → w1.cell? ⟨cb, i, none⟩ = wx.cell? ⟨cb, i, none⟩ := fun i _ => q.cell (by simp; omega)
  have oth : ∀ (b o : Nat), (b ≠ cb ∨ o ≠ k) → (w1.setCell ⟨cb, k, none⟩ (.slice (some ⟨wx.heap.size + 1, 0, none⟩) 1 cap)).cell? ⟨b, o, none⟩ = w1.cell? ⟨b, o, none⟩ := fun b o hne => cset_other (by
    intro e; injection e with e1 e2; rcases hne with n | n
    · exact n e1.symm
    · exact n e2.symm)
  refine ⟨?_, ?_, ?_, ?_, ?_, ?_, ?_, ?_⟩
  · intro j hj
    rw [oth _ _ (.inl (by omega)), q.cell (by simp; omega)]
    exact h.body j hj
  · intro i hi
    by_cases e : i = k
    · subst e
      simp only [if_pos]
      refine ⟨⟨cap, cset_same ((cc i hk).trans (h.todo i (Nat.le_refl _) hk))⟩, ?_, by simpa using hf⟩
      rw [oth _ _ (.inl (by omega))]
      exact hc
    · have hik : i < k := by omega
      obtain ⟨r1, r2⟩ := h.rng i hik
      simp only [if_neg e]
      refine Col.keep (h.did i hik) ?_ ?_ ?_
      · rw [oth _ _ (.inr e)]; exact cc i (by omega)
      · rw [oth _ _ (.inl (by omega))]; exact q.cell (by simpa using r2)
      · rw [World.frozen?_setCell]; exact q.frozen (by simpa using r2)
  · intro i hi hi'
    rw [oth _ _ (.inr (by omega)), cc i hi']
    exact h.todo i (by omega) hi'
  · intro i hi
    rw [World.frozen?_setCell, q.frozen (by simp; omega)]
    exact h.nf i hi
  · exact (h.but.trans (But.of_below q)).setCell rfl _
  · simp; omega
  · intro i hi
    by_cases e : i = k
    · subst e; simp; omega
    · obtain ⟨r1, r2⟩ := h.rng i (by omega)
      simp [e]; omega
  · intro i j hij hj
    by_cases e : j = k
    · subst e
      obtain ⟨r1, r2⟩ := h.rng i (by omega)
      have : i ≠ j := by omega
      simp [this]; omega
    · have a := h.asc i j hij (by omega)
      have : i ≠ k := by omega
      simp [this, e]; exact a

theorem AddSt.start {w wx : World} {cb : Nat} {V : Nat → Int} (hcb : cb < w.heap.size) (hc : ∀ i, i < 12 → w.cell? ⟨cb, i, none⟩ = some (.slice none 0 0)) (hf : ∀ i, i < 12 → w.frozen? ⟨cb, i, none⟩ = false)
    (hb : Below w.heap.size w wx) (hbody : ∀ j, j < 12 → wx.cell? ⟨w.heap.size, j, none⟩ = some (.int .i64 (V j))) (big : w.heap.size < wx.heap.size) : AddSt w wx cb V 0 (fun _ => 0) :=
  ⟨hbody, fun i h => absurd h (by omega), fun i _ hi => (hb.cell (by simpa using hcb)).trans (hc i hi), fun i hi => (hb.frozen (by simpa using hcb)).trans (hf i hi), But.of_below hb, big, fun i h => absurd h (by omega), fun i j _ h => absurd h (by omega)⟩
end Go.Proofs.Ytpgoicdblbpcaaa
