/- A step of a drawn region, said shortly. Slices of numbers, so many a thing: what lies where. Rows of numbers of one's own, appended to. -/
import Derived.Test.YtbngdlbecdloiaaB1
import Derived.Deep.RegionHeld3
import Derived.Deep.OwnRows
import Derived.Deep.AppendLies
import Derived.Deep.Upon
import Derived.Maps.AppendAt
set_option maxHeartbeats 16000000
set_option maxRecDepth 20000
namespace Go.Proofs.Ytbngdlbecdloiaa
open Go.RowKit
set_option linter.unusedVariables false
section
variable {P : Program} {md : Region.Mode} {ops : Array Oper} {Q : Exit → Act → World → Prop} {S : World → Prop}
theorem tq (i : Nat) {o1 o2 o3 o4 o5 o6} {v : Value} {fuel : Nat} {listed : Array Bool} {a a' : Act} {w : World} (hS : S w)
    (h : wpAnyH P md ops Q S fuel (listed.setIfInBounds i true) a' w)
    (hi : ops[i]? = some (Oper.mk o1 o2 o3 o4 o5 o6) := by rfl)
    (hc : (Region.noSelect ops && (Region.free md ops listed i && (Region.ready md ops listed).contains i)) = true := by kernel_rfl)
    (hQ : ∀ c a w, Q (.panic c) (a.put (Oper.mk o1 o2 o3 o4 o5 o6).dst v) w → Q (.panic c) a w := by exact fun _ _ _ h => h)
    (hw : Region.wanted (Oper.mk o1 o2 o3 o4 o5 o6) (yielded ops a.tmps) = true := by rfl)
    (hv : ∀ w, S w → (execOp a.eval (Oper.mk o1 o2 o3 o4 o5 o6)).run P w = .ok (.value v) w := by (intro w s; (try dsimp only at s); go_simp; (try with_reducible rfl)))
    (he : a.put (Oper.mk o1 o2 o3 o4 o5 o6).dst v = a' := by ((try simp only [Act.put, List.setIfInBounds_toArray, List.set_cons_zero, List.set_cons_succ]); (try with_reducible rfl))) :
    wpAnyH P md ops Q S (fuel + 1) listed a w := by
  subst he
  simp only [Bool.and_eq_true] at hc
  exact wpAnyH_take hi hc.1 hc.2.1 hc.2.2 hQ (.inl ⟨hw, hv⟩) hS h
theorem tn (i : Nat) {o1 o2 o3 o4 o5 o6} {fuel : Nat} {listed : Array Bool} {a a' : Act} {w : World} (hS : S w)
    (h : wpAnyH P md ops Q S fuel (listed.setIfInBounds i true) a' w)
    (hi : ops[i]? = some (Oper.mk o1 o2 o3 o4 o5 o6) := by rfl)
    (hc : (Region.noSelect ops && (Region.free md ops listed i && (Region.ready md ops listed).contains i)) = true := by kernel_rfl)
    (hQ : ∀ c a w, Q (.panic c) (a.put (Oper.mk o1 o2 o3 o4 o5 o6).dst undef) w → Q (.panic c) a w := by exact fun _ _ _ h => h)
    (hw : Region.wanted (Oper.mk o1 o2 o3 o4 o5 o6) (yielded ops a.tmps) = false := by rfl)
    (he : a.put (Oper.mk o1 o2 o3 o4 o5 o6).dst undef = a' := by ((try simp only [Act.put, List.setIfInBounds_toArray, List.set_cons_zero, List.set_cons_succ]); (try with_reducible rfl))) :
    wpAnyH P md ops Q S (fuel + 1) listed a w := by
  subst he
  simp only [Bool.and_eq_true] at hc
  exact wpAnyH_take hi hc.1 hc.2.1 hc.2.2 hQ (.inr ⟨hw, rfl⟩) hS h
end
section
variable {P : Program} {md : Region.Mode} {ops : Array Oper} {Q : Exit → Act → World → Prop} {S : World → Prop}
/-- one alone may come up: a call, a store -/
theorem tc (i : Nat) {o1 o2 o3 o4 o5 o6} {fuel : Nat} {listed : Array Bool} {a : Act} {w : World}
    (h : ∀ K' : Act → World → Prop, Shut (∀ a w, S w → (S w → wpAnyH P md ops Q S fuel (listed.setIfInBounds i true) a w) → K' a w) → if Region.wanted (Oper.mk o1 o2 o3 o4 o5 o6) (yielded ops a.tmps) = true then Oper.wp P (Oper.mk o1 o2 o3 o4 o5 o6) a w K' Q else K' (a.put (Oper.mk o1 o2 o3 o4 o5 o6).dst undef) w)
    (hr : Region.ready md ops listed = [i] := by kernel_rfl)
    (hi : ops[i]? = some (Oper.mk o1 o2 o3 o4 o5 o6) := by rfl) :
    wpAnyH P md ops Q S (fuel + 1) listed a w := wpAnyH_ready hr (by simp) (AllReadyH.cons hi h AllReadyH.nil)
/-- back into the region behind it -/
theorem tr {K : Act → World → Prop} {fuel : Nat} {listed : Array Bool} (hK : Shut (∀ a w, S w → (S w → wpAnyH P md ops Q S fuel listed a w) → K a w)) {a a' : Act} {w : World}
    (h : S w → wpAnyH P md ops Q S fuel listed a' w)
    (hS : S w := by ((try dsimp only); (first | (go_simp; done) | (go_keep; done))))
    (he : a = a' := by ((try simp only [Act.put, List.setIfInBounds_toArray, List.set_cons_zero, List.set_cons_succ]); (try with_reducible rfl))) : K a w := by
  subst he
  exact hK.out _ _ hS h
end
end Go.Proofs.Ytbngdlbecdloiaa
namespace Go.Proofs.Ytbngdlbecdloiaa
open Go.RowKit
set_option linter.unusedVariables false
set_option linter.unusedSimpArgs false
/-- a slice's cells are the numbers U -/
def Flat (w : World) (a : Option Addr) (m : Nat) (U : Nat → Int) : Prop :=
  0 < m → ∃ b o, a = some ⟨b, o, none⟩ ∧ b < w.heap.size ∧ ∀ q, q < m → w.cell? ⟨b, o + q, none⟩ = some (.int .i64 (U q))
theorem Flat.below {w w' : World} {a : Option Addr} {m : Nat} {U : Nat → Int} (h : Flat w a m U) (hb : Below w.heap.size w w') : Flat w' a m U := by
  intro h0
  obtain ⟨b, o, e, l, c⟩ := h h0
  exact ⟨b, o, e, Nat.lt_of_lt_of_le l hb.size, fun q hq => (hb.cell (p := ⟨b, o + q, none⟩) l).trans (c q hq)⟩
theorem Flat.nil {w : World} {a : Option Addr} {U : Nat → Int} : Flat w a 0 U := fun h => absurd h (Nat.lt_irrefl 0)
/-- a block of m numbers -/
def Row (w : World) (b : Nat) (t : TypeId) (m : Nat) (U : Nat → Int) : Prop := w.rowIs b t m (fun q => .int .i64 (U q))
theorem Row.flat {w : World} {b t m : Nat} {U : Nat → Int} (h : Row w b t m U) : Flat w (some ⟨b, 0, none⟩) m U := by
  intro _
  exact ⟨b, 0, rfl, World.rowIs.lt h, fun q hq => by rw [Nat.zero_add]; exact World.rowIs.cell h hq⟩
theorem Row.cell {w : World} {b t m : Nat} {U : Nat → Int} (h : Row w b t m U) {q : Nat} (hq : q < m) : w.cell? ⟨b, q, none⟩ = some (.int .i64 (U q)) := World.rowIs.cell h hq
theorem Row.fro {w : World} {b t m : Nat} {U : Nat → Int} (h : Row w b t m U) (q : Nat) : w.frozen? ⟨b, q, none⟩ = false := World.rowIs.frozen h q
theorem Row.lt {w : World} {b t m : Nat} {U : Nat → Int} (h : Row w b t m U) : b < w.heap.size := World.rowIs.lt h
theorem Row.congr {w : World} {b t m : Nat} {U V : Nat → Int} (h : Row w b t m U) (e : ∀ q, q < m → U q = V q) : Row w b t m V := World.rowIs.congr h fun q hq => by simp only [e q hq]
theorem Row.below {w w' : World} {b t m : Nat} {U : Nat → Int} (h : Row w b t m U) (hb : Below w.heap.size w w') : Row w' b t m U := World.rowIs.of_block h (hb.block _ h.lt)
theorem Row.set {w : World} {b t m : Nat} {U : Nat → Int} (h : Row w b t m U) (i : Nat) (v : Int) : Row (w.setCell ⟨b, i, none⟩ (.int .i64 v)) b t m (fun q => if q = i then v else U q) :=
  World.rowIs.congr (World.rowIs.set h i (.int .i64 v)) fun q _ => by by_cases e : q = i <;> simp [e]
theorem Row.setO {w : World} {b t m : Nat} {U : Nat → Int} (h : Row w b t m U) {a : Addr} (ha : b ≠ a.block) (v : Value) : Row (w.setCell a v) b t m U := World.rowIs.setOther h ha v
theorem Row.alloc {w : World} {b t m : Nat} {U : Nat → Int} (h : Row w b t m U) (o : Obj) : Row (w.alloc o) b t m U := World.rowIs.alloc h o
theorem Row.drew {w : World} {b t m : Nat} {U : Nat → Int} (h : Row w b t m U) : Row w.drew b t m U := h
/-- what make lays, things of k numbers -/
theorem Row.made (w : World) (z : Array Value) (m : Nat) (t : TypeId) (hz : ∀ q, q < z.size → z[q]? = some (.int .i64 0)) (h0 : 0 < z.size) : Row (w.alloc (.cells (madeCells z m) t)) w.heap.size t m (fun _ => 0) := by
  refine ⟨_, Go.Deep.blk_alloc_new _ _, size_madeCells _ _, fun i hi => ?_⟩
  have hlt : i % z.size < z.size := Nat.mod_lt _ h0
  have h := hz _ hlt
  rw [Array.getElem?_eq_getElem hlt] at h
  simp only [Option.some.injEq] at h
  simp [madeCells, hi, hlt, h]
theorem make_rows {P : Program} (t e : TypeId) (z : Value) (k bytes : Nat) (ht : P.underlying t = some (.slice e)) (hinfo : (P.info? e).map (fun i => (i.zero, i.size, i.bytes)) = some (some z, k, bytes))
    (kl kc : IntKind) (n : Nat) (hbytes : bytes * n ≤ 281474976710656) (h63 : n ≤ 9223372036854775807) (w : World) :
    (Instr.makeSlice t (.int kl (n : Int)) (.int kc (n : Int))).run P w = .ok (.slice (some ⟨w.heap.size, 0, none⟩) n n) (w.alloc (.cells (madeCells z.cells (n * k)) e)) := by
  obtain ⟨i, hi, hzz⟩ := Option.map_eq_some_iff.1 hinfo
  simp only [Prod.mk.injEq] at hzz
  obtain ⟨hz, hs, hb⟩ := hzz
  have hb' : (i.bytes : Int) * (n : Int) ≤ 281474976710656 := by
    have h : ((i.bytes * n : Nat) : Int) ≤ 281474976710656 := by rw [hb]; omega
    rwa [Int.natCast_mul] at h
  have hr := run_make (P := P) w t e i z ht hi hz kl kc n n (by omega) (Int.le_refl _) hb' (by omega)
  simp only [Int.toNat_natCast, hs] at hr
  exact hr
theorem Row.madek (w : World) (z : Array Value) (k m : Nat) (t : TypeId) (hz : z = Array.replicate k (.int .i64 0)) (h0 : 0 < k) (U : Nat → Int) : Row (w.alloc (.cells (madeCells z m) t)) w.heap.size t m (fun q => if q < 0 then U q else 0) := by
  subst hz
  refine (Row.made w _ _ _ (fun q hq => ?_) (by simpa using h0)).congr fun q _ => by simp
  rw [Array.size_replicate] at hq
  simp [hq]
/-- filled up to p -/
abbrev upto (p : Nat) (U : Nat → Int) : Nat → Int := fun q => if q < p then U q else 0
theorem Row.next {w : World} {b t m p : Nat} {U : Nat → Int} (h : Row w b t m (upto p U)) : Row (w.setCell ⟨b, p, none⟩ (.int .i64 (U p))) b t m (upto (p + 1) U) :=
  (h.set p (U p)).congr fun q _ => by
    by_cases e : q = p
    · subst e; simp [upto]
    · simp only [upto, if_neg e]
      by_cases l : q < p
      · rw [if_pos l, if_pos (by omega)]
      · rw [if_neg l, if_neg (by omega)]
theorem Row.full {w : World} {b t m p : Nat} {U : Nat → Int} (h : Row w b t m (upto p U)) (hp : m ≤ p) : Row w b t m U := h.congr fun q hq => by simp only [upto]; rw [if_pos (by omega)]
theorem Row.zero {w : World} {b t m : Nat} {U : Nat → Int} (h : Row w b t m (fun _ => 0)) : Row w b t m (upto 0 U) := h.congr fun q hq => by simp [upto]
theorem Row.cut {w : World} {b t m p r : Nat} {U : Nat → Int} (h : Row w b t m (upto p U)) (e : p = r) : Row w b t m (upto r U) := e ▸ h
end Go.Proofs.Ytbngdlbecdloiaa
namespace Go.Proofs.Ytbngdlbecdloiaa
open Go.RowKit
set_option linter.unusedVariables false
set_option linter.unusedSimpArgs false
def numL (m : Nat) (U : Nat → Int) : List Value := (List.range m).map fun q => Value.int .i64 (U q)
theorem numL_len (m : Nat) (U : Nat → Int) : (numL m U).length = m := by simp [numL]
theorem numL_get {m : Nat} {U : Nat → Int} {q : Nat} (h : q < m) : (numL m U)[q]? = some (.int .i64 (U q)) := by simp [numL, h]
/-- the one behind the other -/
def cat (p : Nat) (U X : Nat → Int) : Nat → Int := fun q => if q < p then U q else X (q - p)
theorem numL_cat (p r : Nat) (U X : Nat → Int) : numL p U ++ numL r X = numL (p + r) (cat p U X) := by
  apply List.ext_getElem?
  intro q
  by_cases h : q < p
  · rw [List.getElem?_append_left (by rw [numL_len]; exact h), numL_get h, numL_get (by omega)]; simp [cat, h]
  · rw [List.getElem?_append_right (by rw [numL_len]; omega), numL_len]
    by_cases h2 : q < p + r
    · rw [numL_get (by omega), numL_get h2]; simp [cat, h]
    · rw [List.getElem?_eq_none (by rw [numL_len]; omega), List.getElem?_eq_none (by rw [numL_len]; omega)]
/-- a row of n things of k numbers, its block not below base, and nobody else's -/
def OwnL (w : World) (base t k : Nat) (v : Value) (n : Nat) (U : Nat → Int) : Prop := w.ownsRow base t k v n (numL (n * k) U)
theorem OwnL.nil (w : World) (base t k : Nat) (U : Nat → Int) : OwnL w base t k (.slice none 0 0) 0 U := by
  unfold OwnL; rw [Nat.zero_mul]; exact World.ownsRow_nil w base t k
theorem OwnL.flat {w : World} {base t k n : Nat} {a : Option Addr} {c : Nat} {U : Nat → Int} (h : OwnL w base t k (.slice a n c) n U) : Flat w a (n * k) U := by
  intro h0
  rcases h.2 with ⟨hv, hn⟩ | ⟨g, cap, cur, hv, hb, hg, hle, hm, hs, ht⟩
  · subst hn; omega
  · simp only [Value.slice.injEq] at hv
    obtain ⟨rfl, _, rfl⟩ := hv
    have hlt : g < w.heap.size := (Array.getElem?_eq_some_iff.1 hg).1
    refine ⟨g, 0, rfl, hlt, fun q hq => ?_⟩
    have := World.ownsRow.cells h (g := g) rfl q _ (numL_get hq)
    rw [Addr.add_lit] at this
    exact this
theorem OwnL.congr {w : World} {base t k n : Nat} {v : Value} {U V : Nat → Int} (h : OwnL w base t k v n U) (e : ∀ q, q < n * k → U q = V q) : OwnL w base t k v n V := by
  unfold OwnL at *
  rw [show numL (n * k) V = numL (n * k) U from List.map_congr_left fun q hq => by rw [e q (List.mem_range.1 hq)]]
  exact h
theorem OwnL.kept {w w' : World} {base t k n : Nat} {v : Value} {U : Nat → Int} {row : Option Nat} (h : OwnL w base t k v n U) (hg : w.grownBy w' row) (hne : v.ownBlock = none ∨ v.ownBlock ≠ row) : OwnL w' base t k v n U := World.ownsRow.kept h hg hne
theorem below_grown {B : Nat} {w w' : World} (h : Below B w w') : B = w.heap.size → w.grownBy w' none := fun e => ⟨h.os, h.tape, h.output, h.size, fun k hk _ => h.block k (e ▸ hk)⟩
theorem OwnL.below {w w' : World} {base t k n : Nat} {v : Value} {U : Nat → Int} (h : OwnL w base t k v n U) (hb : Below w.heap.size w w') : OwnL w' base t k v n U := by
  have hg := below_grown hb rfl
  cases e : v.ownBlock with
  | none => exact World.ownsRow.kept h hg (.inl e)
  | some b => exact World.ownsRow.kept h hg (.inr (by rw [e]; simp))
theorem OwnL.lt {w : World} {base t k n : Nat} {v : Value} {U : Nat → Int} (h : OwnL w base t k v n U) : ∀ b, v.ownBlock = some b → base ≤ b ∧ b < w.heap.size := World.ownsRow.lt h
theorem OwnL.is {w : World} {base t k n : Nat} {v : Value} {U : Nat → Int} (h : OwnL w base t k v n U) : ∃ a c, v = .slice a n c := by
  rcases h.2 with ⟨hv, hn⟩ | ⟨g, cap, cur, hv, _⟩
  · exact ⟨none, 0, by rw [hv, hn]⟩
  · exact ⟨_, _, hv⟩
theorem OwnL.le {w : World} {base t k n : Nat} {a : Option Addr} {c : Nat} {U : Nat → Int} (h : OwnL w base t k (.slice a n c) n U) : n ≤ c := by
  rcases h.2 with ⟨hv, hn⟩ | ⟨g, cap, cur, hv, _, _, hle, _⟩
  · simp only [Value.slice.injEq] at hv; omega
  · simp only [Value.slice.injEq] at hv; omega
theorem Row.own {w : World} {b t n k base : Nat} {U : Nat → Int} (h : Row w b t (n * k) U) (hb : base ≤ b) (hn : n ≤ maxLen) : OwnL w base t k (.slice (some ⟨b, 0, none⟩) n n) n U := by
  obtain ⟨c, hc, hs, hv⟩ := h
  refine ⟨by rw [numL_len], .inr ⟨b, n, c, rfl, hb, hc, Nat.le_refl _, hn, hs, ?_⟩⟩
  apply List.ext_getElem?
  intro q
  by_cases hq : q < n * k
  · rw [List.getElem?_take, if_pos hq, numL_get hq, ← hv q hq]; simp
  · rw [List.getElem?_eq_none (by simp; omega), List.getElem?_eq_none (by rw [numL_len]; omega)]
theorem OwnL.base {w : World} {base t k n : Nat} {v : Value} {U : Nat → Int} {B : Nat} (h : OwnL w base t k v n U) (hB : B ≤ base) : OwnL w B t k v n U := by
  refine ⟨h.1, ?_⟩
  rcases h.2 with q | ⟨g, cap, cur, hv, hb, rest⟩
  · exact .inl q
  · exact .inr ⟨g, cap, cur, hv, by omega, rest⟩
/-- APPEND -/
theorem run_app {P : Program} (base t ty e k bytes : Nat) (z : Value) (ht : P.underlying t = some (.slice e)) (hinfo : (P.info? e).map (fun i => (i.zero, i.size, i.bytes)) = some (some z, k, bytes)) (hzs : z.cells.size = k) (hk : 0 < k)
    (w : World) (v : Value) (n : Nat) (U : Nat → Int) (h : OwnL w base e k v n U) (a : Option Addr) (m c : Nat) (X : Nat → Int) (hx : Flat w a (m * k) X)
    (h63 : n + m ≤ maxLen) (hbytes : (n + m) * bytes ≤ 140737488355328) (hbase : base ≤ w.heap.size) :
    ∃ a' c' w', (Builtin.append_ #[t, t] ty #[v, .slice a m c]).run P w = .ok (.slice a' (n + m) c') w' ∧ OwnL w' base e k (.slice a' (n + m) c') (n + m) (cat (n * k) U X) ∧ w.grownBy w' v.ownBlock := by
  obtain ⟨i, hi, hzz⟩ := Option.map_eq_some_iff.1 hinfo
  simp only [Prod.mk.injEq] at hzz
  obtain ⟨hz, hs, hb⟩ := hzz
  by_cases h0 : m = 0
  · subst h0
    obtain ⟨a0, c0, rfl⟩ := h.is
    have hle := h.le
    have hnone : Src P i.size t (.slice a 0 c) 0 [] w := by
      cases a with
      | none => exact Src.ofNil w ht c
      | some ad => exact Src.ofSlice w ht ad 0 c [] (by simp) (fun j u hu => by simp at hu) (fun _ hu => by cases hu)
    refine ⟨a0, c0, w, run_append_nothing w t t ty e i ht hi a0 n c0 hle _ hnone, h.congr fun q hq => by simp [cat, hq], ?_⟩
    exact ⟨rfl, rfl, rfl, Nat.le_refl _, fun _ _ _ => rfl⟩
  · obtain ⟨b, o, rfl, hbl, hc⟩ := hx (Nat.mul_pos (by omega) hk)
    obtain ⟨g, cap, w', hr, h2, h3, _⟩ := run_append_lies (P := P) w t ty base e i z k bytes ht hi hz hs hb hzs hk v n (numL (n * k) U) h ⟨b, o, none⟩ m c (numL (m * k) X) (numL_len _ _)
      (fun j u hu => by
        have hj : j < m * k := by have := (List.getElem?_eq_some_iff.1 hu).1; rwa [numL_len] at this
        rw [numL_get hj] at hu
        rw [Addr.add_lit, hc j hj]; exact hu)
      (fun u hu => by obtain ⟨q, _, rfl⟩ := List.mem_map.1 hu; rfl) (by omega) h63 hbytes hbase _ rfl
    refine ⟨_, _, w', hr, ?_, h3⟩
    unfold OwnL
    rw [Nat.add_mul, ← numL_cat]
    exact h2
section
variable {P : Program} {ops : Array Oper} {o : Oper} {a : Act} {Q : Exit → Act → World → Prop} {w : World}
theorem wp_app {K : Act → World → Prop} (s x : Operand) (t : TypeId) (ho : o.op = .call { callee := .builtin .append, args := #[s, x], argTypes := #[t, t] })
    (base e k bytes : Nat) (z : Value) (ht : P.underlying t = some (.slice e)) (hinfo : (P.info? e).map (fun i => (i.zero, i.size, i.bytes)) = some (some z, k, bytes)) (hzs : z.cells.size = k) (hk : 0 < k)
    (v : Value) (n : Nat) (U : Nat → Int) (hs : a.eval s = v) (h : OwnL w base e k v n U) (ad : Option Addr) (m c : Nat) (X : Nat → Int) (hxx : a.eval x = .slice ad m c) (hx : Flat w ad (m * k) X)
    (h63 : n + m ≤ maxLen) (hbytes : (n + m) * bytes ≤ 140737488355328) (hbase : base ≤ w.heap.size)
    (hK : ∀ a' c' w', OwnL w' base e k (.slice a' (n + m) c') (n + m) (cat (n * k) U X) → w.grownBy w' v.ownBlock → K (a.put o.dst (.slice a' (n + m) c')) w') : o.wp P a w K Q := by
  obtain ⟨a', c', w', hr, h2, h3⟩ := run_app (P := P) base t o.type e k bytes z ht hinfo hzs hk w v n U h ad m c X hx h63 hbytes hbase
  unfold Oper.wp execOp
  simp only [ho, resolve, invoke, builtin, Sem.run_bind, Sem.run_pure, Result.andThen_ok, List.map_toArray, List.map_cons, List.map_nil, hs, hxx, hr]
  exact hK _ _ _ h2 h3
theorem wpList_app {rest : List Oper} (hgd : o.guard = none) (s x : Operand) (t : TypeId) (ho : o.op = .call { callee := .builtin .append, args := #[s, x], argTypes := #[t, t] })
    (base e k bytes : Nat) (z : Value) (ht : P.underlying t = some (.slice e)) (hinfo : (P.info? e).map (fun i => (i.zero, i.size, i.bytes)) = some (some z, k, bytes)) (hzs : z.cells.size = k) (hk : 0 < k)
    (v : Value) (n : Nat) (U : Nat → Int) (hs : a.eval s = v) (h : OwnL w base e k v n U) (ad : Option Addr) (m c : Nat) (X : Nat → Int) (hxx : a.eval x = .slice ad m c) (hx : Flat w ad (m * k) X)
    (h63 : n + m ≤ maxLen) (hbytes : (n + m) * bytes ≤ 140737488355328) (hbase : base ≤ w.heap.size)
    (hK : ∀ a' c' w', OwnL w' base e k (.slice a' (n + m) c') (n + m) (cat (n * k) U X) → w.grownBy w' v.ownBlock → wpList P ops Q rest (a.put o.dst (.slice a' (n + m) c')) w') : wpList P ops Q (o :: rest) a w :=
  wpList_plain hgd fun _ hK' => wp_app s x t ho base e k bytes z ht hinfo hzs hk v n U hs h ad m c X hxx hx h63 hbytes hbase fun a' c' w' h2 h3 => hK' _ _ (hK a' c' w' h2 h3)
theorem step_app {K : Act → World → Prop} {E : Prop} (hgd : o.guard = none) (s x : Operand) (t : TypeId) (ho : o.op = .call { callee := .builtin .append, args := #[s, x], argTypes := #[t, t] })
    (base e k bytes : Nat) (z : Value) (ht : P.underlying t = some (.slice e)) (hinfo : (P.info? e).map (fun i => (i.zero, i.size, i.bytes)) = some (some z, k, bytes)) (hzs : z.cells.size = k) (hk : 0 < k)
    (v : Value) (n : Nat) (U : Nat → Int) (hs : a.eval s = v) (h : OwnL w base e k v n U) (ad : Option Addr) (m c : Nat) (X : Nat → Int) (hxx : a.eval x = .slice ad m c) (hx : Flat w ad (m * k) X)
    (h63 : n + m ≤ maxLen) (hbytes : (n + m) * bytes ≤ 140737488355328) (hbase : base ≤ w.heap.size)
    (hK : ∀ a' c' w', OwnL w' base e k (.slice a' (n + m) c') (n + m) (cat (n * k) U X) → w.grownBy w' v.ownBlock → K (a.put o.dst (.slice a' (n + m) c')) w') :
    if Region.wanted o (yielded ops a.tmps) = true then Oper.wp P o a w K Q else E := by
  have hw : Region.wanted o (yielded ops a.tmps) = true := by simp [Region.wanted, hgd]
  rw [if_pos hw]
  exact wp_app s x t ho base e k bytes z ht hinfo hzs hk v n U hs h ad m c X hxx hx h63 hbytes hbase hK
end
end Go.Proofs.Ytbngdlbecdloiaa
