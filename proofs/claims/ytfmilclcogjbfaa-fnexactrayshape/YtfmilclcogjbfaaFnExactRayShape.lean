/- For every argument RayShape answers as its specification: the law that says so answers true, panics nowhere and leaves what came in as it was. -/
import Derived.Test.YtfmilclcogjbfaaExRayR
import Derived.Test.YtfmilclcogjbfaaFacts
import Derived.Test.YtfmilclcogjbfaaOpenBox
import Derived.Test.YtfmilclcogjbfaaOpenRay
import Derived.ProofKit
import Derived.OpenShut
import Derived.ShutString
import Derived.ChangeOld
import Derived.Lib.SmallJoins
namespace Go.Proofs.Ytfmilclcogjbfaa
open Go.ChangeShapes Go.WideShapes Go.ChangeAt Go.RowKit Go.Joins
set_option linter.unusedVariables false
theorem fnExactRayShape_closed : joinedFacts Try.prog 10 Try.f10 Rows.fnExactRayShapeSpec Rows.fnExactRayShapeRow = true := by
  unfold joinedFacts
  rw [mayEnterT, liftsFinalT, makeT, laidOutT, mapsRowedT, stopsHeardT, plainKeysT]
  kernel_rfl

set_option maxRecDepth 100000 in
theorem fnExactRayShape_lifted (os : Os) (started : os.Started) (H : Type) (enc : TypeId × Value → H) :
    ReturnsInHanded {} Try.checked os 10 .any (Rows.fnExactRayShapeSpec.pre6 enc Try.prog Try.f10 Rows.fnExactRayShapeRow.domain false) (Rows.fnExactRayShapeSpec.post enc Try.prog Try.f10 false true false false) := by
  refine returnsInHanded_of_change (C := Try.checked) ownT started (by kernel_rfl) Try.func10
    (ChangeSpec.witness6 (enc := enc) (C := Try.checked) false ⟨#[], #[.agg #[.int .i64 0, .int .i64 0, .int .i64 0, .int .i64 0], .agg #[.int .i64 0, .int .i64 0, .int .i64 0], .agg #[.int .i64 0, .int .i64 0]], []⟩ 8 (by kernel_rfl) (by kernel_rfl) (by kernel_rfl) (by kernel_rfl)) ?_
  intro W base args ds gs before hval0 hW hcnd _
  have hval : ∀ (j : Nat) t v, Try.f10.params[j]? = some t → args[j]? = some v → Value.okWide Try.prog W .any base t v := hval0
  have hW' := hW
  obtain ⟨p, q, hA0, hV, rfl, hfz, hnd⟩ := hW
  have hA : DataW.TrodAll enc Try.prog W 0 (fun _ => true) true Try.f10.params.toList args.toList ds p := hA0
  rw [Try.params10] at hA hval
  obtain ⟨v0, vs0, d0, ds0, p0, q0, hargs, rfl, rfl, h0, r0⟩ := trodAll_cons hA
  obtain ⟨v1, vs1, d1, ds1, p1, q1, rfl, rfl, rfl, h1, r1⟩ := trodAll_cons r0
  obtain ⟨v2, vs2, d2, ds2, p2, q2, rfl, rfl, rfl, h2, r2⟩ := trodAll_cons r1
  obtain ⟨rfl, rfl, rfl⟩ := trodAll_nil r2
  obtain rfl : args = #[v0, v1, v2] := by cases args; simp_all
  obtain ⟨rfl, rfl⟩ := trodVars_none hV
  have k0 := h0
  have lt0 : ∀ x ∈ p0, x.block < W.heap.size := by obtain ⟨m, hm⟩ := k0; exact DataW.trod_lt m _ _ _ hm
  obtain ⟨x0, y0, z0, u0, rfl, w0x, w0y, w0z, w0u⟩ := open_ray4 (hval 0 62 v0 rfl rfl) h0
  have k1 := h1
  have lt1 : ∀ x ∈ p1, x.block < W.heap.size := by obtain ⟨m, hm⟩ := k1; exact DataW.trod_lt m _ _ _ hm
  obtain ⟨c1s, c1t, c1u, d1s, d1t, d1u, m1, rfl, rfl, rfl, hy1s, hy1t, hy1u⟩ := open_agg3 Try.underlying51 (by kernel_rfl) (by kernel_rfl) (hval 1 51 v1 rfl rfl) h1
  obtain ⟨s1, e1s, rfl, w1s⟩ := DataW.trod_int Try.underlying3 hy1s
  obtain ⟨t1, e1t, rfl, w1t⟩ := DataW.trod_int Try.underlying3 hy1t
  obtain ⟨u1, e1u, rfl, w1u⟩ := DataW.trod_int Try.underlying3 hy1u
  simp only [List.cons.injEq, and_true] at e1s e1t e1u
  subst e1s e1t e1u
  have k2 := h2
  have lt2 : ∀ x ∈ p2, x.block < W.heap.size := by obtain ⟨m, hm⟩ := k2; exact DataW.trod_lt m _ _ _ hm
  obtain ⟨c2x, c2y, d2x, d2y, m2, rfl, rfl, rfl, hy2x, hy2y⟩ := open_agg2 Try.underlying52 (by kernel_rfl) (by kernel_rfl) (hval 2 52 v2 rfl rfl) h2
  obtain ⟨x2, e2x, rfl, w2x⟩ := DataW.trod_int Try.underlying3 hy2x
  obtain ⟨y2, e2y, rfl, w2y⟩ := DataW.trod_int Try.underlying3 hy2y
  simp only [List.cons.injEq, and_true] at e2x e2y
  subst e2x e2y
  clear hA0 hval0
  refine (fnExactRayShape_walk x0 y0 z0 u0 s1 t1 u1 x2 y2 W w0x w0y w0z w0u w1s w1t w1u w2x w2y).mono fun e W' ⟨he, bel⟩ => ?_
  subst he
  exact ⟨_, rfl, _, _, _, [], _, [], hW', trodAll_mk1 (shut_bool Try.underlying4 _), (trodAll_cons_mk (Below.trod laidOutT (by kernel_rfl) (of_decide_eq_true (by kernel_rfl)) k0 bel lt0) (trodAll_cons_mk (Below.trod laidOutT (by kernel_rfl) (of_decide_eq_true (by kernel_rfl)) k1 bel lt1) (trodAll_cons_mk (Below.trod laidOutT (by kernel_rfl) (of_decide_eq_true (by kernel_rfl)) k2 bel lt2) trodAll_mk0))), rfl, bel.frame _, fun h => by cases h⟩

theorem fnExactRayShape_over : Rows.fnExactRayShapeRow.holds Try.pinned (OpenSpec.ofChange Rows.fnExactRayShapeSpec) :=
  OpenClaim.holds_of_wide 10 Try.f10 rfl rfl rfl rfl rfl rfl rfl ⟨rfl, rfl, rfl, rfl, rfl⟩ rfl rfl rfl rfl rfl (by kernel_rfl) Try.func10 fnExactRayShape_closed
    (of_decide_eq_true (by kernel_rfl)) (by unfold Func.isWrapper; first | (rw [if_pos (by decide +kernel)]; kernel_rfl) | (rw [if_neg (by decide +kernel)]; exact ⟨rfl, rfl⟩))
    (fun os started H enc _ => fnExactRayShape_lifted os started H enc)

theorem fnExactRayShape_proved : Rows.FnExactRayShapeSaid := fnExactRayShape_over
#print axioms fnExactRayShape_proved
end Go.Proofs.Ytfmilclcogjbfaa
