/- Boxes with their numbers: marked, and held against the marks. A box put: what is asked. Regions whose operations come in any order: one claim that each operation keeps. -/
import Derived.Test.YtbngdlbecdloiaaBrAt
import Derived.Test.YtbngdlbecdloiaaB10
import Derived.Deep.DeepCutAuto
import Derived.Test.YtbngdlbecdloiaaBrGo
import Derived.Test.YtbngdlbecdloiaaB4
import Derived.Deep.RegionHeld3
import Derived.Test.YtbngdlbecdloiaaB8
import Derived.OrdersHeld
set_option maxHeartbeats 16000000
set_option maxRecDepth 20000
namespace Go.Proofs.Ytbngdlbecdloiaa
open Go.RowKit
set_option linter.unusedVariables false
set_option linter.unusedSimpArgs false
theorem grown_set (w : World) (a : Addr) (v : Value) : w.grownBy (w.setCell a v) (some a.block) := ⟨rfl, rfl, rfl, by simp, fun k hk hn => Below.heap_setCell _ _ _ _ (fun e => hn (by rw [e]))⟩
theorem OwnL.set {w : World} {base t k n g c : Nat} {U : Nat → Int} (h : OwnL w base t k (.slice (Option.some ⟨g, 0, none⟩) n c) n U) (q : Nat) (hq : q < n * k) (x : Int) : OwnL (w.setCell ⟨g, q, none⟩ (.int .i64 x)) base t k (.slice (Option.some ⟨g, 0, none⟩) n c) n (fun r => if r = q then x else U r) := by
  rcases h.2 with ⟨hv, hn⟩ | ⟨g', cap, cur, hv, hb, hg, hle, hm, hs, ht⟩
  · simp at hv
  · simp only [Value.slice.injEq, Option.some.injEq, Addr.mk.injEq, and_true, true_and] at hv
    obtain ⟨rfl, rfl⟩ := hv
    refine ⟨by rw [numL_len], .inr ⟨g, c, cur.setIfInBounds q (.int .i64 x), rfl, hb, ?_, hle, hm, by simpa using hs, ?_⟩⟩
    · simp [World.setCell, Array.getElem?_modify, hg]
    · apply List.ext_getElem?
      intro r
      by_cases hr : r < n * k
      · have h1 : cur.toList[r]? = Option.some (.int .i64 (U r)) := by
          have := congrArg (fun l => l[r]?) ht
          simpa [List.getElem?_take, hr, numL_get hr] using this
        rw [List.getElem?_take, if_pos hr, numL_get hr, Array.toList_setIfInBounds, List.getElem?_set]
        by_cases e : q = r
        · subst e
          have : q < cur.toList.length := (List.getElem?_eq_some_iff.1 h1).1
          rw [if_pos rfl, if_pos (by simpa using this)]; simp
        · rw [if_neg e, h1, if_neg (fun z => e z.symm)]
      · rw [List.getElem?_eq_none (by simp; omega), List.getElem?_eq_none (by rw [numL_len]; omega)]
theorem OwnL.at {w : World} {base t k n c : Nat} {a : Option Addr} {U : Nat → Int} (h : OwnL w base t k (.slice a n c) n U) (h0 : 0 < n) : ∃ g, a = Option.some ⟨g, 0, none⟩ ∧ base ≤ g ∧ g < w.heap.size := by
  rcases h.2 with ⟨hv, hn⟩ | ⟨g, cap, cur, hv, hb, hg, _⟩
  · omega
  · simp only [Value.slice.injEq, true_and] at hv
    exact ⟨g, hv.1, hb, (Array.getElem?_eq_some_iff.1 hg).1⟩
theorem OwnL.cell {w : World} {base t k n g c : Nat} {U : Nat → Int} (h : OwnL w base t k (.slice (Option.some ⟨g, 0, none⟩) n c) n U) {q : Nat} (hq : q < n * k) : w.cell? ⟨g, q, none⟩ = Option.some (.int .i64 (U q)) := by
  obtain ⟨b, o, e, _, cc⟩ := h.flat (by omega)
  simp only [Option.some.injEq, Addr.mk.injEq, and_true] at e
  obtain ⟨rfl, rfl⟩ := e
  have := cc q hq
  rwa [Nat.zero_add] at this
theorem mark5 {w wr : World} {base g n c j : Nat} {U : Nat → Int} (hlt : j < n) (ho : OwnL wr base 31 5 (.slice (some ⟨g, 0, none⟩) n c) n (mixU (j * 5) U)) (hg : w.grownBy wr (Value.slice (some ⟨g, 0, none⟩) n c).ownBlock) :
    OwnL (((((wr.setCell ⟨g, j * 5, none⟩ (.int .i64 (1 + (j : Int) * 5))).setCell ⟨g, j * 5 + 1, none⟩ (.int .i64 (1 + (j : Int) * 5 + 1))).setCell ⟨g, j * 5 + 2, none⟩ (.int .i64 (1 + (j : Int) * 5 + 1 + 1))).setCell ⟨g, j * 5 + 3, none⟩ (.int .i64 (1 + (j : Int) * 5 + 1 + 1 + 1))).setCell ⟨g, j * 5 + 4, none⟩ (.int .i64 (1 + (j : Int) * 5 + 1 + 1 + 1 + 1))) base 31 5 (.slice (some ⟨g, 0, none⟩) n c) n (mixU ((j + 1) * 5) U) ∧
    w.grownBy (((((wr.setCell ⟨g, j * 5, none⟩ (.int .i64 (1 + (j : Int) * 5))).setCell ⟨g, j * 5 + 1, none⟩ (.int .i64 (1 + (j : Int) * 5 + 1))).setCell ⟨g, j * 5 + 2, none⟩ (.int .i64 (1 + (j : Int) * 5 + 1 + 1))).setCell ⟨g, j * 5 + 3, none⟩ (.int .i64 (1 + (j : Int) * 5 + 1 + 1 + 1))).setCell ⟨g, j * 5 + 4, none⟩ (.int .i64 (1 + (j : Int) * 5 + 1 + 1 + 1 + 1))) (Value.slice (some ⟨g, 0, none⟩) n c).ownBlock := by
  have q1 := ho.mark (by omega) (x := 1 + (j : Int) * 5) (by omega)
  have q2 := q1.mark (by omega) (x := 1 + (j : Int) * 5 + 1) (by omega)
  have q3 := q2.mark (by omega) (x := 1 + (j : Int) * 5 + 1 + 1) (by omega)
  have q4 := q3.mark (by omega) (x := 1 + (j : Int) * 5 + 1 + 1 + 1) (by omega)
  have q5 := q4.mark (by omega) (x := 1 + (j : Int) * 5 + 1 + 1 + 1 + 1) (by omega)
  refine ⟨?_, ?_⟩
  · rw [show (j + 1) * 5 = j * 5 + 1 + 1 + 1 + 1 + 1 by omega]
    exact q5
  · have h0 : w.grownBy wr (some g) := hg
    exact grown_trans (grown_trans (grown_trans (grown_trans (grown_trans h0 (grown_setG _ _ _ _)) (grown_setG _ _ _ _)) (grown_setG _ _ _ _)) (grown_setG _ _ _ _)) (grown_setG _ _ _ _)
end Go.Proofs.Ytbngdlbecdloiaa
namespace Go.Proofs.Ytbngdlbecdloiaa
open Go.RowKit
set_option linter.unusedVariables false
set_option linter.unusedSimpArgs false
/-- what lies where inside: the boxes that came in, the one, and the answer's -/
structure PB (w wr : World) (a : Option Addr) (n c : Nat) (X : Nat → Int) : Prop where
  bel : Below w.heap.size w wr
  big : w.heap.size + 1 + 1 < wr.heap.size
  box : wr.cell? ⟨w.heap.size, 0, none⟩ = some (.slice a n c)
  x0 : wr.cell? ⟨w.heap.size + 1, 0, none⟩ = some (.int .i64 (X 0))
  x1 : wr.cell? ⟨w.heap.size + 1, 1, none⟩ = some (.int .i64 (X 1))
  x2 : wr.cell? ⟨w.heap.size + 1, 2, none⟩ = some (.int .i64 (X 2))
  x3 : wr.cell? ⟨w.heap.size + 1, 3, none⟩ = some (.int .i64 (X 3))
  x4 : wr.cell? ⟨w.heap.size + 1, 4, none⟩ = some (.int .i64 (X 4))
  res : wr.cell? ⟨w.heap.size + 1 + 1, 0, none⟩ = some (.slice none 0 0)
  nfr : wr.frozen? ⟨w.heap.size + 1 + 1, 0, none⟩ = false
theorem PB.on {w wr w' : World} {a : Option Addr} {n c : Nat} {X : Nat → Int} (h : PB w wr a n c X) (hb : Below wr.heap.size wr w') : PB w w' a n c X := by
  have big := h.big
  have k : ∀ b o, b < wr.heap.size → w'.cell? ⟨b, o, none⟩ = wr.cell? ⟨b, o, none⟩ := fun b o l => hb.cell (p := ⟨b, o, none⟩) l
  exact ⟨h.bel.trans (hb.mono (by omega)), Nat.lt_of_lt_of_le big hb.size, (k _ _ (by omega)).trans h.box, (k _ _ (by omega)).trans h.x0, (k _ _ (by omega)).trans h.x1, (k _ _ (by omega)).trans h.x2, (k _ _ (by omega)).trans h.x3, (k _ _ (by omega)).trans h.x4, (k _ _ (by omega)).trans h.res, (hb.frozen (p := ⟨w.heap.size + 1 + 1, 0, none⟩) big).trans h.nfr⟩
def insU (k : Nat) (U X : Nat → Int) (d : Nat) : Nat → Int := cat ((k + 1) * 5) (cat (k * 5) U X) (fun q => U (q + d * 5))
theorem ins_set (k : Nat) (U X : Nat → Int) (q : Nat) : (if q = k * 5 + 4 then X 4 else if q = k * 5 + 3 then X 3 else if q = k * 5 + 2 then X 2 else if q = k * 5 + 1 then X 1 else if q = k * 5 then X 0 else U q) = insU k U X (k + 1) q := by
  unfold insU cat
  by_cases q1 : q < k * 5
  · rw [if_neg (by omega), if_neg (by omega), if_neg (by omega), if_neg (by omega), if_neg (by omega), if_pos (by omega), if_pos q1]
  · by_cases q2 : q < (k + 1) * 5
    · rw [if_pos q2, if_neg q1]
      rcases (show q - k * 5 = 0 ∨ q - k * 5 = 1 ∨ q - k * 5 = 2 ∨ q - k * 5 = 3 ∨ q - k * 5 = 4 by omega) with e | e | e | e | e
      all_goals rw [e]
      · rw [if_neg (by omega), if_neg (by omega), if_neg (by omega), if_neg (by omega), if_pos (by omega)]
      · rw [if_neg (by omega), if_neg (by omega), if_neg (by omega), if_pos (by omega)]
      · rw [if_neg (by omega), if_neg (by omega), if_pos (by omega)]
      · rw [if_neg (by omega), if_pos (by omega)]
      · rw [if_pos (by omega)]
    · rw [if_neg q2]
      show _ = U (q - (k + 1) * 5 + (k + 1) * 5)
      rw [show q - (k + 1) * 5 + (k + 1) * 5 = q by omega, if_neg (by omega), if_neg (by omega), if_neg (by omega), if_neg (by omega), if_neg (by omega)]
def PutIs (n : Nat) (U X : Nat → Int) (k N : Nat) (R : Nat → Int) (B : Bool) : Prop :=
  (broadB n U = false ∧ N = 0 ∧ B = false) ∨ (broadB n U = true ∧ itemB X = false ∧ N = n ∧ B = false ∧ R = U) ∨
  (broadB n U = true ∧ itemB X = true ∧ thereB n U (X 0) k = true ∧ N = n ∧ B = true ∧ R = insU k U X (k + 1)) ∨
  (broadB n U = true ∧ itemB X = true ∧ thereB n U (X 0) k = false ∧ n = 24 ∧ N = n ∧ B = false ∧ R = U) ∨
  (broadB n U = true ∧ itemB X = true ∧ thereB n U (X 0) k = false ∧ n < 24 ∧ N = n + 1 ∧ B = true ∧ R = insU k U X k)
theorem putIs_ex (n : Nat) (U X : Nat → Int) (k : Nat) : ∃ N R B, PutIs n U X k N R B ∧ N ≤ n + 1 ∧ N ≤ 1048576 := by
  cases hb : broadB n U with
  | false => exact ⟨0, U, false, .inl ⟨hb, rfl, rfl⟩, by omega, by omega⟩
  | true =>
    have h24 : n ≤ 24 := by unfold broadB at hb; simp only [Bool.and_eq_true, decide_eq_true_eq] at hb; exact hb.1
    cases hi : itemB X with
    | false => exact ⟨n, U, false, .inr (.inl ⟨hb, hi, rfl, rfl, rfl⟩), by omega, by omega⟩
    | true =>
      cases ht : thereB n U (X 0) k with
      | true => exact ⟨n, _, true, .inr (.inr (.inl ⟨hb, hi, ht, rfl, rfl, rfl⟩)), by omega, by omega⟩
      | false =>
        by_cases h : n = 24
        · exact ⟨n, U, false, .inr (.inr (.inr (.inl ⟨hb, hi, ht, h, rfl, rfl, rfl⟩))), by omega, by omega⟩
        · exact ⟨n + 1, _, true, .inr (.inr (.inr (.inr ⟨hb, hi, ht, by omega, rfl, rfl, rfl⟩))), by omega, by omega⟩
end Go.Proofs.Ytbngdlbecdloiaa
namespace Go.Proofs.Ytbngdlbecdloiaa
open Go.RowKit
set_option linter.unusedVariables false
set_option linter.unusedSimpArgs false

section
variable {P : Program} {ops : Array Oper} {Q : Exit → Act → World → Prop} {md : Region.Mode}

theorem rdy_at {listed : Array Bool} {i : Nat} (h : i ∈ Region.ready md ops listed) {o : Oper} (ho : ops[i]? = some o) :
    listed.getD i true = false ∧ (o.after.toList.all fun e => !Region.binds md e || listed.getD e.on false) = true := by
  unfold Region.ready at h
  rw [List.mem_filter] at h
  obtain ⟨_, h⟩ := h
  rw [ho] at h
  simp only [Option.map_some, Option.getD_some, Bool.and_eq_true, Bool.not_eq_true'] at h
  refine ⟨h.1, ?_⟩
  have := h.2
  rw [← Array.all_toList] at this
  exact this

theorem rdy_lt {listed : Array Bool} {i : Nat} (h : i ∈ Region.ready md ops listed) : i < ops.size := by
  unfold Region.ready at h
  rw [List.mem_filter] at h
  simpa using h.1

theorem rdy_off {listed : Array Bool} {i : Nat} (h : i ∈ Region.ready md ops listed) : listed.getD i true = false := by
  have hlt := rdy_lt h
  exact (rdy_at h (o := ops[i]) (by simp [hlt])).1

/-- where nothing may come up any more, and all ahead of it has come, it has come -/
theorem rdy_on {listed : Array Bool} {i : Nat} {o : Oper} (h : Region.ready md ops listed = []) (ho : ops[i]? = some o)
    (hd : (o.after.toList.all fun e => !Region.binds md e || listed.getD e.on false) = true) : listed.getD i true = true := by
  cases hl : listed.getD i true with
  | true => rfl
  | false =>
    exfalso
    have hi : i < ops.size := by
      rcases Nat.lt_or_ge i ops.size with q | q
      · exact q
      · rw [Array.getElem?_eq_none q] at ho; cases ho
    have : i ∈ Region.ready md ops listed := by
      unfold Region.ready
      rw [List.mem_filter]
      refine ⟨by simpa using hi, ?_⟩
      rw [ho, hl]
      simp only [Option.map_some, Option.getD_some, Bool.not_false, Bool.true_and]
      rw [← Array.all_toList]
      exact hd
    rw [h] at this
    cases this

theorem cnt_set (l : List Bool) : ∀ (i : Nat), l.getD i true = false → (l.set i true).count false + 1 = l.count false := by
  induction l with
  | nil => intro i h; simp at h
  | cons x xs ih =>
    intro i h
    cases i with
    | zero =>
      have hx : x = false := by simpa using h
      subst hx
      simp
    | succ i =>
      have h' : xs.getD i true = false := by simpa using h
      have := ih i h'
      simp only [List.set_cons_succ, List.count_cons]
      omega

theorem wpAny_inv (I : Array Bool → Act → World → Prop)
    (hs : ∀ listed a w i, I listed a w → i ∈ Region.ready md ops listed → wpOp P ops Q i (fun a' w' => I (listed.setIfInBounds i true) a' w') a w)
    (he : ∀ listed a w, I listed a w → Region.ready md ops listed = [] → Q .normal a w) :
    ∀ (fuel : Nat) (listed : Array Bool) (a : Act) (w : World), listed.toList.count false ≤ fuel → I listed a w → wpAny P md ops Q fuel listed a w := by
  intro fuel
  induction fuel with
  | zero =>
    intro listed a w hc hi
    have hr : Region.ready md ops listed = [] := by
      refine List.eq_nil_iff_forall_not_mem.2 fun i h => ?_
      have hoff := rdy_off h
      have h2 : listed.toList.getD i true = false := by simpa using hoff
      have := cnt_set listed.toList i h2
      omega
    exact ⟨hr, he listed a w hi hr⟩
  | succ fuel ih =>
    intro listed a w hc hi
    refine ⟨fun hr => he listed a w hi hr, fun i h => ?_⟩
    have hoff := rdy_off h
    have h2 : listed.toList.getD i true = false := by simpa using hoff
    have h3 := cnt_set listed.toList i h2
    refine wpOp_mono (fun a' w' h' => ih _ a' w' ?_ h') (hs listed a w i hi h)
    rw [Array.toList_setIfInBounds]
    omega

theorem wp_region_inv {id : Nat} {a : Act} {w : World} (I : Array Bool → Act → World → Prop) (hm : P.follows .mixedOrders = true)
    (h0 : I (Array.replicate ops.size false) a w.drew)
    (hs : ∀ listed a w i, I listed a w → i ∈ Region.ready .any ops listed → wpOp P ops Q i (fun a' w' => I (listed.setIfInBounds i true) a' w') a w)
    (he : ∀ listed a w, I listed a w → Region.ready .any ops listed = [] → Q .normal a w) : (Code.region id ops true).wp P Q a w :=
  wp_region_any hm (wpAny_inv I hs he _ _ _ _ (by simp) h0)

theorem wpOp_shut {i : Nat} {o : Oper} {K : Act → World → Prop} {a : Act} {w : World} (ho : ops[i]? = some o)
    (h : ∀ K' : Act → World → Prop, Shut (∀ a w, K a w → K' a w) → if Region.wanted o (yielded ops a.tmps) = true then Oper.wp P o a w K' Q else K' (a.put o.dst undef) w) : wpOp P ops Q i K a w :=
  wpOp_step ho fun K' hK => h K' hK
end

/-- a list of numbers at block lb -/
def Li (w0 w : World) (lb len : Nat) (xs : List Int) : Prop := w0.heap.size ≤ lb ∧ lb < w.heap.size ∧ ∀ i, i < len → w.cell? ⟨lb, i, none⟩ = some (.int .i64 (xs.getD i 0))
theorem Li.up {rb : Nat} {w0 w w' : World} {lb len : Nat} {xs : List Int} (h : Li w0 w lb len xs) (hrb : rb < w0.heap.size) (k : But rb w w') : Li w0 w' lb len xs := by
  obtain ⟨h1, h2, h3⟩ := h
  exact ⟨h1, Nat.lt_of_lt_of_le h2 k.size, fun i hi => (k.cell (p := ⟨lb, i, none⟩) h2 (by simp only [ne_eq]; omega)).trans (h3 i hi)⟩
abbrev VI (lo hi : Int) (x : Value) : Prop := ∃ n, x = .int .i64 n ∧ lo ≤ n ∧ n ≤ hi
abbrev VP (rb : Nat) (x : Value) : Prop := x = .pointer (some ⟨rb, 0, none⟩)
abbrev VN (n : Int) (x : Value) : Prop := x = .int .i64 n
abbrev VV (lo hi : Int) (x : Value) : Prop := ∃ a b, x = vv a b ∧ (lo ≤ a ∧ a ≤ hi) ∧ lo ≤ b ∧ b ≤ hi
abbrev VS (lo hi : Int) (x : Value) : Prop := ∃ a b c, x = s3 a b c ∧ (lo ≤ a ∧ a ≤ hi) ∧ (lo ≤ b ∧ b ≤ hi) ∧ lo ≤ c ∧ c ≤ hi
def VL (w0 w : World) (c : Bool) (len : Nat) (xs : List Int) (x : Value) : Prop := ∃ lb, x = .slice (some ⟨lb, 0, none⟩) len len ∧ (c = false → Li w0 w lb len xs)
def VA (w0 w : World) (c : Bool) (n : Nat) (V : Nat → Int) (x : Value) : Prop := ∃ ab, x = .pointer (some ⟨ab, 0, none⟩) ∧ (c = false → Al w0 w ab n V)
theorem VL.up {rb : Nat} {w0 w w' : World} {c : Bool} {len : Nat} {xs : List Int} {x : Value} (h : VL w0 w c len xs x) (hrb : rb < w0.heap.size) (k : But rb w w') : VL w0 w' c len xs x := by
  obtain ⟨lb, e, h⟩ := h; exact ⟨lb, e, fun q => (h q).up hrb k⟩
theorem VL.used {w0 w w' : World} {c : Bool} {len : Nat} {xs : List Int} {x : Value} (h : VL w0 w c len xs x) : VL w0 w' true len xs x := by
  obtain ⟨lb, e, h⟩ := h; exact ⟨lb, e, fun q => Bool.noConfusion q⟩
theorem VA.up {rb : Nat} {w0 w w' : World} {c : Bool} {n : Nat} {V : Nat → Int} {x : Value} (h : VA w0 w c n V x) (hrb : rb < w0.heap.size) (k : But rb w w') : VA w0 w' c n V x := by
  obtain ⟨lb, e, h⟩ := h; exact ⟨lb, e, fun q => (h q).up hrb k⟩
theorem VA.used {w0 w w' : World} {c : Bool} {n : Nat} {V : Nat → Int} {x : Value} (h : VA w0 w c n V x) : VA w0 w' true n V x := by
  obtain ⟨lb, e, h⟩ := h; exact ⟨lb, e, fun q => Bool.noConfusion q⟩
theorem Li.new {w0 w : World} {cs : Array Value} {t : TypeId} {len : Nat} {xs : List Int} (hsz : w0.heap.size ≤ w.heap.size) (hc : ∀ i, i < len → cs[i]? = some (.int .i64 (xs.getD i 0))) : Li w0 (w.alloc (.cells cs t)) w.heap.size len xs :=
  ⟨hsz, by simp, fun i hi => by rw [World.cell?_alloc_new]; exact hc i hi⟩
end Go.Proofs.Ytbngdlbecdloiaa
