/- For every argument Touch answers as its specification: the law that says so answers true, panics nowhere and leaves what came in as it was. -/
import Derived.Test.YtnkebpbpempmhaaExTouch
import Derived.Test.YtnkebpbpempmhaaFacts
import Derived.Test.YtnkebpbpempmhaaOpenBox
import Derived.ProofKit
import Derived.OpenShut
import Derived.ShutString
import Derived.ChangeOld
import Derived.Lib.SmallJoins
namespace Go.Proofs.Ytnkebpbpempmhaa
open Go.ChangeShapes Go.WideShapes Go.ChangeAt Go.RowKit Go.Joins
set_option linter.unusedVariables false
theorem fnExactTouch_closed : joinedFacts Try.prog 10 Try.f10 Rows.fnExactTouchSpec Rows.fnExactTouchRow = true := by
  unfold joinedFacts
  rw [mayEnterT, liftsFinalT, makeT, laidOutT, mapsRowedT, stopsHeardT, plainKeysT]
  kernel_rfl

set_option maxRecDepth 100000 in
set_option maxHeartbeats 2000000 in
theorem fnExactTouch_lifted (os : Os) (started : os.Started) (H : Type) (enc : TypeId × Value → H) :
    ReturnsInHanded {} Try.checked os 10 .any (Rows.fnExactTouchSpec.pre6 enc Try.prog Try.f10 Rows.fnExactTouchRow.domain false) (Rows.fnExactTouchSpec.post enc Try.prog Try.f10 false true false false) := by
  refine returnsInHanded_of_change (C := Try.checked) ownT started (by kernel_rfl) Try.func10
    (ChangeSpec.witness6 (enc := enc) (C := Try.checked) false ⟨#[], #[.agg #[.int .i64 0, .int .i64 0, .int .i64 0], .agg #[.int .i64 0, .int .i64 0], .agg #[.int .i64 0, .int .i64 0, .int .i64 0], .agg #[.int .i64 0, .int .i64 0]], []⟩ 8 (by kernel_rfl) (by kernel_rfl) (by kernel_rfl) (by kernel_rfl)) ?_
  intro W base args ds gs before hval0 hW hcnd _
  have hval : ∀ (j : Nat) t v, Try.f10.params[j]? = some t → args[j]? = some v → Value.okWide Try.prog W .any base t v := hval0
  have hW' := hW
  obtain ⟨p, q, hA0, hV, rfl, hfz, hnd⟩ := hW
  have hA : DataW.TrodAll enc Try.prog W 0 (fun _ => true) true Try.f10.params.toList args.toList ds p := hA0
  rw [Try.params10] at hA hval
  obtain ⟨v0, vs0, d0, ds0, p0, q0, hargs, rfl, rfl, h0, r0⟩ := trodAll_cons hA
  obtain ⟨v1, vs1, d1, ds1, p1, q1, rfl, rfl, rfl, h1, r1⟩ := trodAll_cons r0
  obtain ⟨v2, vs2, d2, ds2, p2, q2, rfl, rfl, rfl, h2, r2⟩ := trodAll_cons r1
  obtain ⟨v3, vs3, d3, ds3, p3, q3, rfl, rfl, rfl, h3, r3⟩ := trodAll_cons r2
  obtain ⟨rfl, rfl, rfl⟩ := trodAll_nil r3
  obtain rfl : args = #[v0, v1, v2, v3] := by cases args; simp_all
  obtain ⟨rfl, rfl⟩ := trodVars_none hV
  have k0 := h0
  have lt0 : ∀ x ∈ p0, x.block < W.heap.size := by obtain ⟨m, hm⟩ := k0; exact DataW.trod_lt m _ _ _ hm
  obtain ⟨c0s, c0t, c0u, d0s, d0t, d0u, m0, rfl, rfl, rfl, hy0s, hy0t, hy0u⟩ := open_agg3 Try.underlying60 (by kernel_rfl) (by kernel_rfl) (hval 0 60 v0 rfl rfl) h0
  obtain ⟨s0, e0s, rfl, w0s⟩ := DataW.trod_int Try.underlying3 hy0s
  obtain ⟨t0, e0t, rfl, w0t⟩ := DataW.trod_int Try.underlying3 hy0t
  obtain ⟨u0, e0u, rfl, w0u⟩ := DataW.trod_int Try.underlying3 hy0u
  simp only [List.cons.injEq, and_true] at e0s e0t e0u
  subst e0s e0t e0u
  have k1 := h1
  have lt1 : ∀ x ∈ p1, x.block < W.heap.size := by obtain ⟨m, hm⟩ := k1; exact DataW.trod_lt m _ _ _ hm
  obtain ⟨c1x, c1y, d1x, d1y, m1, rfl, rfl, rfl, hy1x, hy1y⟩ := open_agg2 Try.underlying61 (by kernel_rfl) (by kernel_rfl) (hval 1 61 v1 rfl rfl) h1
  obtain ⟨x1, e1x, rfl, w1x⟩ := DataW.trod_int Try.underlying3 hy1x
  obtain ⟨y1, e1y, rfl, w1y⟩ := DataW.trod_int Try.underlying3 hy1y
  simp only [List.cons.injEq, and_true] at e1x e1y
  subst e1x e1y
  have k2 := h2
  have lt2 : ∀ x ∈ p2, x.block < W.heap.size := by obtain ⟨m, hm⟩ := k2; exact DataW.trod_lt m _ _ _ hm
  obtain ⟨c2s, c2t, c2u, d2s, d2t, d2u, m2, rfl, rfl, rfl, hy2s, hy2t, hy2u⟩ := open_agg3 Try.underlying60 (by kernel_rfl) (by kernel_rfl) (hval 2 60 v2 rfl rfl) h2
  obtain ⟨s2, e2s, rfl, w2s⟩ := DataW.trod_int Try.underlying3 hy2s
  obtain ⟨t2, e2t, rfl, w2t⟩ := DataW.trod_int Try.underlying3 hy2t
  obtain ⟨u2, e2u, rfl, w2u⟩ := DataW.trod_int Try.underlying3 hy2u
  simp only [List.cons.injEq, and_true] at e2s e2t e2u
  subst e2s e2t e2u
  have k3 := h3
  have lt3 : ∀ x ∈ p3, x.block < W.heap.size := by obtain ⟨m, hm⟩ := k3; exact DataW.trod_lt m _ _ _ hm
  obtain ⟨c3x, c3y, d3x, d3y, m3, rfl, rfl, rfl, hy3x, hy3y⟩ := open_agg2 Try.underlying61 (by kernel_rfl) (by kernel_rfl) (hval 3 61 v3 rfl rfl) h3
  obtain ⟨x3, e3x, rfl, w3x⟩ := DataW.trod_int Try.underlying3 hy3x
  obtain ⟨y3, e3y, rfl, w3y⟩ := DataW.trod_int Try.underlying3 hy3y
  simp only [List.cons.injEq, and_true] at e3x e3y
  subst e3x e3y
  clear hA0 hval0
  refine (fnExactTouch_walk s0 t0 u0 x1 y1 s2 t2 u2 x3 y3 W w0s w0t w0u w1x w1y w2s w2t w2u w3x w3y).mono fun e W' ⟨he, bel⟩ => ?_
  subst he
  exact ⟨_, rfl, _, _, _, [], _, [], hW', trodAll_mk1 (shut_bool Try.underlying4 _), (trodAll_cons_mk (Below.trod laidOutT (by kernel_rfl) (of_decide_eq_true (by kernel_rfl)) k0 bel lt0) (trodAll_cons_mk (Below.trod laidOutT (by kernel_rfl) (of_decide_eq_true (by kernel_rfl)) k1 bel lt1) (trodAll_cons_mk (Below.trod laidOutT (by kernel_rfl) (of_decide_eq_true (by kernel_rfl)) k2 bel lt2) (trodAll_cons_mk (Below.trod laidOutT (by kernel_rfl) (of_decide_eq_true (by kernel_rfl)) k3 bel lt3) trodAll_mk0)))), rfl, bel.frame _, fun h => by cases h⟩

theorem fnExactTouch_over : Rows.fnExactTouchRow.holds Try.pinned (OpenSpec.ofChange Rows.fnExactTouchSpec) :=
  OpenClaim.holds_of_wide 10 Try.f10 rfl rfl rfl rfl rfl rfl rfl ⟨rfl, rfl, rfl, rfl, rfl⟩ rfl rfl rfl rfl rfl (by kernel_rfl) Try.func10 fnExactTouch_closed
    (of_decide_eq_true (by kernel_rfl)) (by unfold Func.isWrapper; first | (rw [if_pos (by decide +kernel)]; kernel_rfl) | (rw [if_neg (by decide +kernel)]; exact ⟨rfl, rfl⟩))
    (fun os started H enc _ => fnExactTouch_lifted os started H enc)

theorem fnExactTouch_proved : Rows.FnExactTouchSaid := fnExactTouch_over
#print axioms fnExactTouch_proved
end Go.Proofs.Ytnkebpbpempmhaa
