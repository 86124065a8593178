/- The contracts of the draws of numbers. The contracts of the draws of ways. The contracts of the draws of two ways. The contract of VecAdd. The contract of VecSub. Two ways held against each other. A box with its number held against itself. A drawn region that is held, within a fence whose every function may be called: a call of yield in it, too. -/
import Derived.Test.YtbngdlbecdloiaaRd
import Derived.Test.YtbngdlbecdloiaaB3
import Derived.Deep.RegionHeld3
import Derived.Deep.QuietTactic
import Derived.BigQuiet
import Derived.Deep.RegionWith
import Derived.Test.YtbngdlbecdloiaaB4
import Derived.Test.YtbngdlbecdloiaaRfG
import Derived.OwnWalkIn
set_option maxHeartbeats 16000000
set_option maxRecDepth 20000
namespace Go.Proofs.Ytbngdlbecdloiaa
open Go.RowKit
set_option linter.unusedVariables false

end Go.Proofs.Ytbngdlbecdloiaa
namespace Go.Proofs.Ytbngdlbecdloiaa
open Go.RowKit
set_option linter.unusedVariables false
set_option linter.unusedSimpArgs false

end Go.Proofs.Ytbngdlbecdloiaa
namespace Go.Proofs.Ytbngdlbecdloiaa
open Go.RowKit
set_option linter.unusedVariables false
set_option linter.unusedSimpArgs false

/-- a number that was drawn -/
def Dn (x : Int) : Prop := -1099511627776 ≤ x ∧ x ≤ 1099511627776

theorem RB.size {w0 w : World} {rb p : Nat} (h : RB w0 w rb p) : w0.heap.size ≤ w.heap.size := by
  have := (h.old (B := 0) (Nat.zero_le _) (Nat.zero_le _)).size
  exact this

theorem bcellB {B : Nat} {a b : World} (hb : Below B a b) : (∀ x o, x < B → b.cell? ⟨x, o, none⟩ = a.cell? ⟨x, o, none⟩) ∧ (∀ x o, x < B → b.frozen? ⟨x, o, none⟩ = a.frozen? ⟨x, o, none⟩) :=
  ⟨fun x o h => hb.cell (p := ⟨x, o, none⟩) h, fun x o h => hb.frozen (p := ⟨x, o, none⟩) h⟩

end Go.Proofs.Ytbngdlbecdloiaa
namespace Go.Proofs.Ytbngdlbecdloiaa
open Go.RowKit
set_option linter.unusedVariables false
set_option linter.unusedSimpArgs false

end Go.Proofs.Ytbngdlbecdloiaa
namespace Go.Proofs.Ytbngdlbecdloiaa
open Go.RowKit
set_option linter.unusedVariables false
set_option linter.unusedSimpArgs false

end Go.Proofs.Ytbngdlbecdloiaa
namespace Go.Proofs.Ytbngdlbecdloiaa
open Go.RowKit
set_option linter.unusedVariables false
set_option linter.unusedSimpArgs false
theorem run_eq_vec (n d : Nat) (hn : n = d + 1) (a b x y : Int) (w : World) : (Op.equalIn (n + 1) 27 (.agg #[.int .i64 a, .int .i64 b]) (.agg #[.int .i64 x, .int .i64 y])).run Try.prog w = .ok (a == x && b == y) w := by
  have hi : Try.prog.underlying 3 = some (.int .i64) := by kernel_rfl
  have hs : Try.prog.stoodInHeld 27 = false := by kernel_rfl
  have hp : ∀ w, (program).run Try.prog w = .ok Try.prog w := fun w => by rfl
  have p0 : ∀ (a b : Int) w, (part 3 #[.int .i64 a, .int .i64 b] 0).run Try.prog w = .ok (.int .i64 a) w := fun a b w => by kernel_rfl
  have p1 : ∀ (a b : Int) w, (part 3 #[.int .i64 a, .int .i64 b] 1).run Try.prog w = .ok (.int .i64 b) w := fun a b w => by kernel_rfl
  simp only [Op.equalIn, Sem.run_bind, run_underlying Try.underlying27, Result.andThen_ok, hp, hs, Bool.false_eq_true, if_false, Sem.run_pure]
  subst hn
  have h0 : ∀ w, (Op.equalIn (d + 1) 3 (.int .i64 a) (.int .i64 x)).run Try.prog w = .ok (a == x) w := fun w => run_equalIn_int w d 3 .i64 .i64 a x hi
  have h1 : ∀ w, (Op.equalIn (d + 1) 3 (.int .i64 b) (.int .i64 y)).run Try.prog w = .ok (b == y) w := fun w => run_equalIn_int w d 3 .i64 .i64 b y hi
  simp only [List.forIn_toArray, List.forIn_cons, List.forIn_nil, Sem.run_bind, p0, h0, Result.andThen_ok, Sem.run_ite, Sem.run_pure]
  cases hx : (a == x) <;> cases hy : (b == y) <;> simp [Sem.run_bind, p0, p1, h0, h1, Sem.run_ite, hx, hy]
theorem eq_vec0 (a b x y : Int) (w : World) : (Op.equalIn 10000 27 (.agg #[.int .i64 a, .int .i64 b]) (.agg #[.int .i64 x, .int .i64 y])).run Try.prog w = .ok (a == x && b == y) w := run_eq_vec 9999 9998 rfl a b x y w
end Go.Proofs.Ytbngdlbecdloiaa
namespace Go.Proofs.Ytbngdlbecdloiaa
open Go.RowKit
set_option linter.unusedVariables false
set_option linter.unusedSimpArgs false
theorem run_eq_box (n d : Nat) (hn : n = d + 2) (x0 x1 x2 x3 : Int) (w : World) : (Op.equalIn (n + 1) 29 (.agg #[.int .i64 x0, .int .i64 x1, .int .i64 x2, .int .i64 x3]) (.agg #[.int .i64 x0, .int .i64 x1, .int .i64 x2, .int .i64 x3])).run Try.prog w = .ok true w := by
  have hi : Try.prog.underlying 3 = some (.int .i64) := by kernel_rfl
  have hs : Try.prog.stoodInHeld 29 = false := by kernel_rfl
  have hp : ∀ w, (program).run Try.prog w = .ok Try.prog w := fun w => by rfl
  have p0 : ∀ (x0 x1 x2 x3 : Int) w, (part 27 #[.int .i64 x0, .int .i64 x1, .int .i64 x2, .int .i64 x3] 0).run Try.prog w = .ok (.agg #[.int .i64 x0, .int .i64 x1]) w := fun x0 x1 x2 x3 w => by kernel_rfl
  have p1 : ∀ (x0 x1 x2 x3 : Int) w, (part 27 #[.int .i64 x0, .int .i64 x1, .int .i64 x2, .int .i64 x3] 2).run Try.prog w = .ok (.agg #[.int .i64 x2, .int .i64 x3]) w := fun x0 x1 x2 x3 w => by kernel_rfl
  simp only [Op.equalIn, Sem.run_bind, run_underlying Try.underlying29, Result.andThen_ok, hp, hs, Bool.false_eq_true, if_false, Sem.run_pure]
  subst hn
  have h0 : ∀ w, (Op.equalIn (d + 2) 27 (.agg #[.int .i64 x0, .int .i64 x1]) (.agg #[.int .i64 x0, .int .i64 x1])).run Try.prog w = .ok true w := fun w => by rw [run_eq_vec (d + 1) (d + 0) rfl]; simp
  have h1 : ∀ w, (Op.equalIn (d + 2) 27 (.agg #[.int .i64 x2, .int .i64 x3]) (.agg #[.int .i64 x2, .int .i64 x3])).run Try.prog w = .ok true w := fun w => by rw [run_eq_vec (d + 1) (d + 0) rfl]; simp
  simp only [List.forIn_toArray, List.forIn_cons, List.forIn_nil, Sem.run_bind, p0, h0, Result.andThen_ok, Sem.run_ite, Sem.run_pure]
  simp [Sem.run_bind, p0, h0, p1, h1, Sem.run_ite]
theorem run_eq_item (n d : Nat) (hn : n = d + 3) (x0 x1 x2 x3 x4 : Int) (w : World) : (Op.equalIn (n + 1) 31 (.agg #[.int .i64 x0, .int .i64 x1, .int .i64 x2, .int .i64 x3, .int .i64 x4]) (.agg #[.int .i64 x0, .int .i64 x1, .int .i64 x2, .int .i64 x3, .int .i64 x4])).run Try.prog w = .ok true w := by
  have hi : Try.prog.underlying 3 = some (.int .i64) := by kernel_rfl
  have hs : Try.prog.stoodInHeld 31 = false := by kernel_rfl
  have hp : ∀ w, (program).run Try.prog w = .ok Try.prog w := fun w => by rfl
  have p0 : ∀ (x0 x1 x2 x3 x4 : Int) w, (part 3 #[.int .i64 x0, .int .i64 x1, .int .i64 x2, .int .i64 x3, .int .i64 x4] 0).run Try.prog w = .ok (.int .i64 x0) w := fun x0 x1 x2 x3 x4 w => by kernel_rfl
  have p1 : ∀ (x0 x1 x2 x3 x4 : Int) w, (part 29 #[.int .i64 x0, .int .i64 x1, .int .i64 x2, .int .i64 x3, .int .i64 x4] 1).run Try.prog w = .ok (.agg #[.int .i64 x1, .int .i64 x2, .int .i64 x3, .int .i64 x4]) w := fun x0 x1 x2 x3 x4 w => by kernel_rfl
  simp only [Op.equalIn, Sem.run_bind, run_underlying Try.underlying31, Result.andThen_ok, hp, hs, Bool.false_eq_true, if_false, Sem.run_pure]
  subst hn
  have h0 : ∀ w, (Op.equalIn (d + 3) 3 (.int .i64 x0) (.int .i64 x0)).run Try.prog w = .ok true w := fun w => by rw [run_equalIn_int w (d + 2) 3 .i64 .i64 x0 x0 hi]; simp
  have h1 : ∀ w, (Op.equalIn (d + 3) 29 (.agg #[.int .i64 x1, .int .i64 x2, .int .i64 x3, .int .i64 x4]) (.agg #[.int .i64 x1, .int .i64 x2, .int .i64 x3, .int .i64 x4])).run Try.prog w = .ok true w := fun w => run_eq_box (d + 2) d rfl x1 x2 x3 x4 w
  simp only [List.forIn_toArray, List.forIn_cons, List.forIn_nil, Sem.run_bind, p0, h0, Result.andThen_ok, Sem.run_ite, Sem.run_pure]
  simp [Sem.run_bind, p0, h0, p1, h1, Sem.run_ite]
theorem eq_item0 (x0 x1 x2 x3 x4 : Int) (w : World) : (Op.equalIn 10000 31 (.agg #[.int .i64 x0, .int .i64 x1, .int .i64 x2, .int .i64 x3, .int .i64 x4]) (.agg #[.int .i64 x0, .int .i64 x1, .int .i64 x2, .int .i64 x3, .int .i64 x4])).run Try.prog w = .ok true w := run_eq_item 9999 9996 rfl x0 x1 x2 x3 x4 w
end Go.Proofs.Ytbngdlbecdloiaa
namespace Go.Proofs.Ytbngdlbecdloiaa
open Go.RowKit
set_option linter.unusedVariables false
section
variable {F : Fence} {n : Nat} {P : Program} {ops : Array Oper} {Q : Exit → Act → World → Prop} {md : Region.Mode} {S : World → Prop}
theorem yieldsIf_opIn {i : Nat} {o : Oper} {v : Value} {a : Act} (hF : ∀ f, F.fn f) (hn : noDefer ops = true) (hi : ops[i]? = some o) (hy : YieldsIf P ops S o v a)
    {K : Act → World → Prop} {w : World} (hS : S w) (h : K (a.put o.dst v) w) : wpOpIn F n P ops Q i K a w := by
  unfold Go.wpOpIn
  simp only [hi]
  rcases hy with ⟨hw, hv⟩ | ⟨hw, rfl⟩
  · simp only [hw, if_true]
    unfold Oper.wpIn
    rw [Oper.semAt_plain F _ _ (noDefer_at hn hi), hv w hS]
    exact ⟨fun _ _ => hF _, h⟩
  · simp only [hw, Bool.false_eq_true, if_false]
    exact ⟨fun _ _ => hF _, h⟩
theorem opIn_putIf {j : Nat} {oi oj : Oper} {v : Value} (hF : ∀ f, F.fn f) (hn : noDefer ops = true) (hj : ops[j]? = some oj) (hap : oi.apart ops oj = true)
    (hsi : ∀ cs b, oi.op ≠ .select cs b) (hsj : ∀ cs b, oj.op ≠ .select cs b)
    (hQ : ∀ c a w, Q (.panic c) (a.put oi.dst v) w → Q (.panic c) a w) {K : Act → World → Prop} {a : Act} {w : World}
    (hy : YieldsIf P ops S oi v a) (h : wpOpIn F n P ops Q j K (a.put oi.dst v) w) :
    wpOpIn F n P ops Q j (fun a' w' => YieldsIf P ops S oi v a' ∧ K (a'.put oi.dst v) w') a w := by
  obtain ⟨h1, h2, h3⟩ := Oper.apart_spec hap
  have hnd := noDefer_at hn hj
  have keep : ∀ (a : Act), YieldsIf P ops S oi v a → ∀ u, YieldsIf P ops S oi v (a.put oj.dst u) := fun a hy u =>
    hy.of_same (execOp_put oi hsi a oj.dst u h3) (wanted_put oi a oj.dst u h3)
  have keepD : ∀ d, YieldsIf P ops S oi v { a with defers := d :: a.defers } := fun d => hy.of_same rfl rfl
  unfold wpOpIn at h ⊢
  simp only [hj] at h ⊢
  rw [wanted_put oj a oi.dst v h1] at h
  split
  · rename_i hw
    simp only [hw, if_true] at h
    unfold Oper.wpIn at *
    refine ⟨fun _ _ => hF _, ?_⟩
    have h := h.2
    rw [Oper.semAt_plain F _ _ hnd, execOp_put oj hsj a oi.dst v h1] at h
    rw [Oper.semAt_plain F _ _ hnd]
    generalize (execOp a.eval oj).run P w = r at *
    cases r with
    | ok x w' =>
      cases x <;> simp only [Oper.uponIn] at h ⊢
      case value u => exact ⟨keep a hy u, by rw [← Act.put_comm a v u h2]; exact h⟩
      case skip => exact ⟨keep a hy _, by rw [← Act.put_comm a v undef h2]; exact h⟩
      case defer d =>
        refine ⟨keep _ (keepD d) _, ?_⟩
        rw [← Act.put_comm _ v undef h2, ← Act.put_defers]
        exact h
      case enter f args =>
        refine ⟨h.1, CallsIn.mono h.2 fun e w'' he => ?_⟩
        cases e with
        | returned u => exact ⟨keep a hy u, by rw [← Act.put_comm a v u h2]; exact he⟩
        | panicked c => exact hQ _ _ _ he
        | outgrown => exact he
      case row row args => exact ⟨h.1, RowsIn.mono h.2 fun u w'' he => ⟨keep a hy u, by rw [← Act.put_comm a v u h2]; exact he⟩⟩
      case round l f tmps assign body =>
        refine ⟨h.1, RoundIn.mono h.2 fun e w'' he => ?_⟩
        cases e with
        | returned u => exact ⟨keep a hy u, by rw [← Act.put_comm a v u h2]; exact he⟩
        | panicked c => exact hQ _ _ _ he
        | outgrown => exact he
    | halt x w' =>
      cases x <;> simp only [Oper.uponIn] at h ⊢
      case panic u => exact hQ _ _ _ h
  · rename_i hw
    simp only [hw] at h
    exact ⟨fun _ _ => hF _, keep a hy _, by rw [← Act.put_comm a v undef h2]; exact h.2⟩
/-- whatever order is picked, the condition holding behind each operation -/
def anyIH (F : Fence) (n : Nat) (P : Program) (md : Region.Mode) (ops : Array Oper) (Q : Exit → Act → World → Prop) (S : World → Prop) : Nat → Array Bool → Act → World → Prop
  | 0, listed, a, w => Region.ready md ops listed = [] ∧ Q .normal a w
  | fuel + 1, listed, a, w =>
    (Region.ready md ops listed = [] → Q .normal a w) ∧
    ∀ i ∈ Region.ready md ops listed, wpOpIn F n P ops Q i (fun a' w' => S w' ∧ anyIH F n P md ops Q S fuel (listed.setIfInBounds i true) a' w') a w
theorem anyIn_of_IH : ∀ (fuel : Nat) (listed : Array Bool) (a : Act) (w : World), anyIH F n P md ops Q S fuel listed a w → wpAnyIn F n P md ops Q fuel listed a w
  | 0, _, _, _, h => h
  | fuel + 1, _, _, _, h => ⟨h.1, fun i hi => wpOpIn_mono (fun a' w' h' => anyIn_of_IH fuel _ a' w' h'.2) (h.2 i hi)⟩
theorem anyIH_first {i : Nat} {oi : Oper} {v : Value} (hF : ∀ f, F.fn f) (hn : noDefer ops = true) (hi : ops[i]? = some oi) (hsel : ∀ (j : Nat) (o : Oper) cs b, ops[j]? = some o → o.op ≠ .select cs b)
    (hQ : ∀ c a w, Q (.panic c) (a.put oi.dst v) w → Q (.panic c) a w) :
    ∀ (fuel : Nat) (listed : Array Bool) (a : Act) (w : World),
      (∀ j oj, ops[j]? = some oj → j ≠ i → listed.getD j true = false → (∀ e ∈ oj.after, Region.binds md e = true → e.on ≠ i) → oi.apart ops oj = true) →
      i ∈ Region.ready md ops listed → YieldsIf P ops S oi v a → S w →
      anyIH F n P md ops Q S fuel (listed.setIfInBounds i true) (a.put oi.dst v) w → anyIH F n P md ops Q S (fuel + 1) listed a w := by
  intro fuel
  induction fuel with
  | zero =>
    intro listed a w _ hr hy hS H
    refine ⟨fun h => (by rw [h] at hr; cases hr), fun j hj => ?_⟩
    by_cases hji : j = i
    · subst hji; exact yieldsIf_opIn hF hn hi hy hS ⟨hS, H⟩
    · have := ready_mono hj hji
      rw [H.1] at this
      cases this
  | succ fuel ih =>
    intro listed a w hfree hr hy hS H
    refine ⟨fun h => (by rw [h] at hr; cases hr), fun j hj => ?_⟩
    by_cases hji : j = i
    · subst hji; exact yieldsIf_opIn hF hn hi hy hS ⟨hS, H⟩
    · have h1 := H.2 j (ready_mono hj hji)
      obtain ⟨hjun, oj, hoj, hall⟩ := mem_ready.1 hj
      have hnot : ∀ e ∈ oj.after, Region.binds md e = true → e.on ≠ i := fun e he hb heq => by
        have h1 := hall e he hb
        have h0 := (mem_ready.1 hr).1
        rw [heq] at h1
        rcases Nat.lt_or_ge i listed.size with h' | h'
        · simp [h'] at h0 h1; rw [h0] at h1; cases h1
        · simp [Array.getElem?_eq_none h'] at h1
      have h2 := opIn_putIf hF hn hoj (hfree j oj hoj hji hjun hnot) (fun cs b => hsel i oi cs b hi) (fun cs b => hsel j oj cs b hoj) hQ hy h1
      have hfree' : ∀ k ok, ops[k]? = some ok → k ≠ i → (listed.setIfInBounds j true).getD k true = false →
          (∀ e ∈ ok.after, Region.binds md e = true → e.on ≠ i) → oi.apart ops ok = true := fun k ok hk hki hun hno => by
        refine hfree k ok hk hki ?_ hno
        by_cases hjk : j = k
        · subst hjk; exact hjun
        · rw [getD_set_ne true hjk] at hun; exact hun
      refine wpOpIn_mono (fun a' w' h3 => ⟨h3.2.1, ih (listed.setIfInBounds j true) a' w' hfree' (ready_mono hr (Ne.symm hji)) h3.1 h3.2.1 ?_⟩) h2
      rw [Array.setIfInBounds_comm _ _ hji]
      exact h3.2.2
theorem fn_wide : ∀ f, Fence.wide.fn f := fun _ => trivial
/-- a step: wanted -/
theorem ti (i : Nat) {o1 o2 o3 o4 o5 o6} {v : Value} {fuel : Nat} {listed : Array Bool} {a a' : Act} {w : World} (hS : S w)
    (h : anyIH F n P md ops Q S fuel (listed.setIfInBounds i true) a' w)
    (hi : ops[i]? = some (Oper.mk o1 o2 o3 o4 o5 o6) := by rfl)
    (hc : (Region.noSelect ops && (Region.free md ops listed i && ((Region.ready md ops listed).contains i && noDefer ops))) = true := by kernel_rfl)
    (hQ : ∀ c a w, Q (.panic c) (a.put (Oper.mk o1 o2 o3 o4 o5 o6).dst v) w → Q (.panic c) a w := by exact fun _ _ _ h => h)
    (hw : Region.wanted (Oper.mk o1 o2 o3 o4 o5 o6) (yielded ops a.tmps) = true := by rfl)
    (hv : ∀ w, S w → (execOp a.eval (Oper.mk o1 o2 o3 o4 o5 o6)).run P w = .ok (.value v) w := by (intro w s; (try dsimp only at s); go_simp; (try with_reducible rfl)))
    (he : a.put (Oper.mk o1 o2 o3 o4 o5 o6).dst v = a' := by ((try simp only [Act.put, List.setIfInBounds_toArray, List.set_cons_zero, List.set_cons_succ]); (try with_reducible rfl)))
    (hF : ∀ f, F.fn f := by exact fun _ => trivial) :
    anyIH F n P md ops Q S (fuel + 1) listed a w := by
  subst he
  simp only [Bool.and_eq_true] at hc
  exact anyIH_first hF hc.2.2.2 hi (Region.noSelect_spec hc.1) hQ fuel listed a w (Region.free_spec hi hc.2.1) (by simpa using hc.2.2.1) (.inl ⟨hw, hv⟩) hS h
theorem tni (i : Nat) {o1 o2 o3 o4 o5 o6} {fuel : Nat} {listed : Array Bool} {a a' : Act} {w : World} (hS : S w)
    (h : anyIH F n P md ops Q S fuel (listed.setIfInBounds i true) a' w)
    (hi : ops[i]? = some (Oper.mk o1 o2 o3 o4 o5 o6) := by rfl)
    (hc : (Region.noSelect ops && (Region.free md ops listed i && ((Region.ready md ops listed).contains i && noDefer ops))) = true := by kernel_rfl)
    (hQ : ∀ c a w, Q (.panic c) (a.put (Oper.mk o1 o2 o3 o4 o5 o6).dst undef) w → Q (.panic c) a w := by exact fun _ _ _ h => h)
    (hw : Region.wanted (Oper.mk o1 o2 o3 o4 o5 o6) (yielded ops a.tmps) = false := by rfl)
    (he : a.put (Oper.mk o1 o2 o3 o4 o5 o6).dst undef = a' := by ((try simp only [Act.put, List.setIfInBounds_toArray, List.set_cons_zero, List.set_cons_succ]); (try with_reducible rfl)))
    (hF : ∀ f, F.fn f := by exact fun _ => trivial) :
    anyIH F n P md ops Q S (fuel + 1) listed a w := by
  subst he
  simp only [Bool.and_eq_true] at hc
  exact anyIH_first hF hc.2.2.2 hi (Region.noSelect_spec hc.1) hQ fuel listed a w (Region.free_spec hi hc.2.1) (by simpa using hc.2.2.1) (.inr ⟨hw, rfl⟩) hS h
/-- one alone may come up -/
theorem tci (i : Nat) {fuel : Nat} {listed : Array Bool} {a : Act} {w : World}
    (h : wpOpIn F n P ops Q i (fun a' w' => S w' ∧ anyIH F n P md ops Q S fuel (listed.setIfInBounds i true) a' w') a w)
    (hr : Region.ready md ops listed = [i] := by kernel_rfl) :
    anyIH F n P md ops Q S (fuel + 1) listed a w := ⟨fun h0 => (by rw [hr] at h0; cases h0), fun j hj => by rw [hr, List.mem_singleton] at hj; subst hj; exact h⟩
theorem anyIH_done {listed : Array Bool} {a : Act} {w : World} (h : Q .normal a w) (hr : Region.ready md ops listed = [] := by kernel_rfl) :
    ∀ fuel, anyIH F n P md ops Q S fuel listed a w
  | 0 => ⟨hr, h⟩
  | _ + 1 => ⟨fun _ => h, by rw [hr]; simp⟩
/-- the region: within a fence -/
theorem regionIn_held {id : Nat} {a : Act} {w : World} (S : World → Prop) (hm : P.follows .mixedOrders = true) (hS : S w.drew)
    (h : S w.drew → anyIH F n P .any ops Q S ops.size (Array.replicate ops.size false) a w.drew) : (Code.region id ops true).wpIn F n P Q a w :=
  wpIn_region_any hm (anyIn_of_IH _ _ _ _ (h hS))
/-- a call of yield that is wanted: it says: go on -/
theorem opIn_yields {i l : Nat} {dst : Option Tmp} {x : Operand} {q : Operand} {ts : Array TypeId} {ty pos aft g} {a : Act} {w : World} {v0 : Value} {K : Act → World → Prop} {R : Ending → World → Prop}
    (hi : ops[i]? = some (Oper.mk dst (.call { callee := .value x, args := #[q], argTypes := ts }) ty pos aft g)) (hn : noDefer ops = true)
    (hw : Region.wanted (Oper.mk dst (.call { callee := .value x, args := #[q], argTypes := ts }) ty pos aft g) (yielded ops a.tmps) = true)
    (hx : a.eval x = .func (.yield l) #[] #[]) (hp : a.eval q = v0) (hd : F.depth = none)
    (hY : YieldAt Fence.wide 0 P l #[v0] w R) (hw0 : F = Fence.wide) (hn0 : n = 0) (hK : ∀ e w', R e w' → ∃ v, e = .returned v ∧ K (a.put dst v) w') : wpOpIn F n P ops Q i K a w := by
  subst hw0 hn0
  obtain ⟨fn, tmps, assign, body, hy, hR⟩ := hY
  unfold Go.wpOpIn
  simp only [hi]
  rw [if_pos hw]
  unfold Oper.wpIn
  refine ⟨fun _ _ => trivial, ?_⟩
  rw [Oper.semAt_plain Fence.wide _ _ (noDefer_at hn hi)]
  have e : (execOp a.eval (Oper.mk dst (.call { callee := .value x, args := #[q], argTypes := ts }) ty pos aft g)).run P w = .ok (.round l fn tmps assign body) w := by
    have hm : (#[q] : Array Operand).map a.eval = #[v0] := by simp [hp]
    simp only [execOp, resolve, hx, hm]
    simp [go_sem, invoke, hy]
  rw [e, Oper.uponIn_round]
  refine ⟨(fun e => by cases e), hR.mono ?_⟩
  intro e w' h
  obtain ⟨v, rfl, h2⟩ := hK e w' h
  exact h2
end
end Go.Proofs.Ytbngdlbecdloiaa
