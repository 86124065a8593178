/- Regions whose operations come in any order: one claim that each operation keeps. -/
import Derived.Test.YtpgoicdblbpcaaaAl
import Derived.OrdersHeld
import Derived.Deep.RegionHeld3
namespace Go.Proofs.Ytpgoicdblbpcaaa
open Go.RowKit
set_option linter.unusedVariables false
set_option linter.unusedSimpArgs false

section
variable {P : Program} {ops : Array Oper} {Q : Exit → Act → World → Prop} {md : Region.Mode}

theorem rdy_at {listed : Array Bool} {i : Nat} (h : i ∈ Region.ready md ops listed) {o : Oper} (ho : ops[i]? = some o) :
    listed.getD i true = false ∧ (o.after.toList.all fun e => !Region.binds md e || listed.getD e.on false) = true := by
  unfold Region.ready at h
  rw [List.mem_filter] at h
  obtain ⟨_, h⟩ := h
  rw [ho] at h
  simp only [Option.map_some, Option.getD_some, Bool.and_eq_true, Bool.not_eq_true'] at h
  refine ⟨h.1, ?_⟩
  have := h.2
  rw [← Array.all_toList] at this
  exact this

theorem rdy_lt {listed : Array Bool} {i : Nat} (h : i ∈ Region.ready md ops listed) : i < ops.size := by
  unfold Region.ready at h
  rw [List.mem_filter] at h
  simpa using h.1

theorem rdy_off {listed : Array Bool} {i : Nat} (h : i ∈ Region.ready md ops listed) : listed.getD i true = false := by
  have hlt := rdy_lt h
  exact (rdy_at h (o := ops[i]) (by simp [hlt])).1

/-- where nothing may come up any more, and all ahead of it has come, it has come -/
theorem rdy_on {listed : Array Bool} {i : Nat} {o : Oper} (h : Region.ready md ops listed = []) (ho : ops[i]? = some o)
    (hd : (o.after.toList.all fun e => !Region.binds md e || listed.getD e.on false) = true) : listed.getD i true = true := by
  cases hl : listed.getD i true with
  | true => rfl
  | false =>
    exfalso
    have hi : i < ops.size := by
      rcases Nat.lt_or_ge i ops.size with q | q
      · exact q
      · rw [Array.getElem?_eq_none q] at ho; cases ho
    have : i ∈ Region.ready md ops listed := by
      unfold Region.ready
      rw [List.mem_filter]
      refine ⟨by simpa using hi, ?_⟩
      rw [ho, hl]
      simp only [Option.map_some, Option.getD_some, Bool.not_false, Bool.true_and]
      rw [← Array.all_toList]
      exact hd
    rw [h] at this
    cases this

theorem cnt_set (l : List Bool) : ∀ (i : Nat), l.getD i true = false → (l.set i true).count false + 1 = l.count false := by
  induction l with
  | nil => intro i h; simp at h
  | cons x xs ih =>
    intro i h
    cases i with
    | zero =>
      have hx : x = false := by simpa using h
      subst hx
      simp
    | succ i =>
      have h' : xs.getD i true = false := by simpa using h
      have := ih i h'
      simp only [List.set_cons_succ, List.count_cons]
      omega

theorem wpAny_inv (I : Array Bool → Act → World → Prop)
    (hs : ∀ listed a w i, I listed a w → i ∈ Region.ready md ops listed → wpOp P ops Q i (fun a' w' => I (listed.setIfInBounds i true) a' w') a w)
    (he : ∀ listed a w, I listed a w → Region.ready md ops listed = [] → Q .normal a w) :
    ∀ (fuel : Nat) (listed : Array Bool) (a : Act) (w : World), listed.toList.count false ≤ fuel → I listed a w → wpAny P md ops Q fuel listed a w := by
  intro fuel
  induction fuel with
  | zero =>
    intro listed a w hc hi
    have hr : Region.ready md ops listed = [] := by
      refine List.eq_nil_iff_forall_not_mem.2 fun i h => ?_
      have hoff := rdy_off h
      have h2 : listed.toList.getD i true = false := by simpa using hoff
      have := cnt_set listed.toList i h2
      omega
    exact ⟨hr, he listed a w hi hr⟩
  | succ fuel ih =>
    intro listed a w hc hi
    refine ⟨fun hr => he listed a w hi hr, fun i h => ?_⟩
    have hoff := rdy_off h
    have h2 : listed.toList.getD i true = false := by simpa using hoff
    have h3 := cnt_set listed.toList i h2
    refine wpOp_mono (fun a' w' h' => ih _ a' w' ?_ h') (hs listed a w i hi h)
    rw [Array.toList_setIfInBounds]
    omega

theorem wp_region_inv {id : Nat} {a : Act} {w : World} (I : Array Bool → Act → World → Prop) (hm : P.follows .mixedOrders = true)
    (h0 : I (Array.replicate ops.size false) a w.drew)
    (hs : ∀ listed a w i, I listed a w → i ∈ Region.ready .any ops listed → wpOp P ops Q i (fun a' w' => I (listed.setIfInBounds i true) a' w') a w)
    (he : ∀ listed a w, I listed a w → Region.ready .any ops listed = [] → Q .normal a w) : (Code.region id ops true).wp P Q a w :=
  wp_region_any hm (wpAny_inv I hs he _ _ _ _ (by simp) h0)

theorem wpOp_shut {i : Nat} {o : Oper} {K : Act → World → Prop} {a : Act} {w : World} (ho : ops[i]? = some o)
    (h : ∀ K' : Act → World → Prop, Shut (∀ a w, K a w → K' a w) → if Region.wanted o (yielded ops a.tmps) = true then Oper.wp P o a w K' Q else K' (a.put o.dst undef) w) : wpOp P ops Q i K a w :=
  wpOp_step ho fun K' hK => h K' hK
end

/-- a list of numbers at block lb -/
def Li (w0 w : World) (lb len : Nat) (xs : List Int) : Prop := w0.heap.size ≤ lb ∧ lb < w.heap.size ∧ ∀ i, i < len → w.cell? ⟨lb, i, none⟩ = some (.int .i64 (xs.getD i 0))
theorem Li.up {rb : Nat} {w0 w w' : World} {lb len : Nat} {xs : List Int} (h : Li w0 w lb len xs) (hrb : rb < w0.heap.size) (k : But rb w w') : Li w0 w' lb len xs := by
  obtain ⟨h1, h2, h3⟩ := h
  exact ⟨h1, Nat.lt_of_lt_of_le h2 k.size, fun i hi => (k.cell (p := ⟨lb, i, none⟩) h2 (by simp only [ne_eq]; omega)).trans (h3 i hi)⟩
abbrev VI (lo hi : Int) (x : Value) : Prop := ∃ n, x = .int .i64 n ∧ lo ≤ n ∧ n ≤ hi
abbrev VP (rb : Nat) (x : Value) : Prop := x = .pointer (some ⟨rb, 0, none⟩)
abbrev VN (n : Int) (x : Value) : Prop := x = .int .i64 n
abbrev VV (lo hi : Int) (x : Value) : Prop := ∃ a b, x = vv a b ∧ (lo ≤ a ∧ a ≤ hi) ∧ lo ≤ b ∧ b ≤ hi
abbrev VS (lo hi : Int) (x : Value) : Prop := ∃ a b c, x = s3 a b c ∧ (lo ≤ a ∧ a ≤ hi) ∧ (lo ≤ b ∧ b ≤ hi) ∧ lo ≤ c ∧ c ≤ hi
def VL (w0 w : World) (c : Bool) (len : Nat) (xs : List Int) (x : Value) : Prop := ∃ lb, x = .slice (some ⟨lb, 0, none⟩) len len ∧ (c = false → Li w0 w lb len xs)
def VA (w0 w : World) (c : Bool) (n : Nat) (V : Nat → Int) (x : Value) : Prop := ∃ ab, x = .pointer (some ⟨ab, 0, none⟩) ∧ (c = false → Al w0 w ab n V)
theorem VL.up {rb : Nat} {w0 w w' : World} {c : Bool} {len : Nat} {xs : List Int} {x : Value} (h : VL w0 w c len xs x) (hrb : rb < w0.heap.size) (k : But rb w w') : VL w0 w' c len xs x := by
  obtain ⟨lb, e, h⟩ := h; exact ⟨lb, e, fun q => (h q).up hrb k⟩
theorem VL.used {w0 w w' : World} {c : Bool} {len : Nat} {xs : List Int} {x : Value} (h : VL w0 w c len xs x) : VL w0 w' true len xs x := by
  obtain ⟨lb, e, h⟩ := h; exact ⟨lb, e, fun q => Bool.noConfusion q⟩
theorem VA.up {rb : Nat} {w0 w w' : World} {c : Bool} {n : Nat} {V : Nat → Int} {x : Value} (h : VA w0 w c n V x) (hrb : rb < w0.heap.size) (k : But rb w w') : VA w0 w' c n V x := by
  obtain ⟨lb, e, h⟩ := h; exact ⟨lb, e, fun q => (h q).up hrb k⟩
theorem VA.used {w0 w w' : World} {c : Bool} {n : Nat} {V : Nat → Int} {x : Value} (h : VA w0 w c n V x) : VA w0 w' true n V x := by
  obtain ⟨lb, e, h⟩ := h; exact ⟨lb, e, fun q => Bool.noConfusion q⟩
theorem Li.new {w0 w : World} {cs : Array Value} {t : TypeId} {len : Nat} {xs : List Int} (hsz : w0.heap.size ≤ w.heap.size) (hc : ∀ i, i < len → cs[i]? = some (.int .i64 (xs.getD i 0))) : Li w0 (w.alloc (.cells cs t)) w.heap.size len xs :=
  ⟨hsz, by simp, fun i hi => by rw [World.cell?_alloc_new]; exact hc i hi⟩
end Go.Proofs.Ytpgoicdblbpcaaa
