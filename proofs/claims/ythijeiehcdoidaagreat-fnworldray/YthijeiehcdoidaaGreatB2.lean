/- Texts of a proof. -/
import Derived.Test.YthijeiehcdoidaaGreatB1
import Derived.Deep.AppendLies
import Derived.Deep.Upon
import Derived.Maps.AppendAt
import Derived.Test.YthijeiehcdoidaaGreatRows
import Derived.WalkKit
import Derived.JoinedOf
set_option maxHeartbeats 16000000
set_option maxRecDepth 20000
namespace Go.Proofs.YthijeiehcdoidaaGreat
open Go.RowKit
set_option linter.unusedVariables false
set_option linter.unusedSimpArgs false
def numL (m : Nat) (U : Nat → Int) : List Value := (List.range m).map fun q => Value.int .i64 (U q)
theorem numL_len (m : Nat) (U : Nat → Int) : (numL m U).length = m := by simp [numL]
theorem numL_get {m : Nat} {U : Nat → Int} {q : Nat} (h : q < m) : (numL m U)[q]? = some (.int .i64 (U q)) := by simp [numL, h]
def cat (p : Nat) (U X : Nat → Int) : Nat → Int := fun q => if q < p then U q else X (q - p)
theorem numL_cat (p r : Nat) (U X : Nat → Int) : numL p U ++ numL r X = numL (p + r) (cat p U X) := by
 apply List.ext_getElem?
 intro q
 by_cases h : q < p
 · rw [List.getElem?_append_left (by rw [numL_len]; exact h), numL_get h, numL_get (by omega)]; simp [cat, h]
 · rw [List.getElem?_append_right (by rw [numL_len]; omega), numL_len]
   by_cases h2 : q < p + r
   · rw [numL_get (by omega), numL_get h2]; simp [cat, h]
   · rw [List.getElem?_eq_none (by rw [numL_len]; omega), List.getElem?_eq_none (by rw [numL_len]; omega)]
def OwnL (w : World) (base t k : Nat) (v : Value) (n : Nat) (U : Nat → Int) : Prop := w.ownsRow base t k v n (numL (n * k) U)
theorem OwnL.nil (w : World) (base t k : Nat) (U : Nat → Int) : OwnL w base t k (.slice none 0 0) 0 U := by
 unfold OwnL; rw [Nat.zero_mul]; exact World.ownsRow_nil w base t k
theorem OwnL.flat {w : World} {base t k n : Nat} {a : Option Addr} {c : Nat} {U : Nat → Int} (h : OwnL w base t k (.slice a n c) n U) : Flat w a (n * k) U := by
 intro h0
 rcases h.2 with ⟨hv, hn⟩ | ⟨g, cap, cur, hv, hb, hg, hle, hm, hs, ht⟩
 · subst hn; omega
 · simp only [Value.slice.injEq] at hv
   obtain ⟨rfl, _, rfl⟩ := hv
   have hlt : g < w.heap.size := (Array.getElem?_eq_some_iff.1 hg).1
   refine ⟨g, 0, rfl, hlt, fun q hq => ?_⟩
   have := World.ownsRow.cells h (g := g) rfl q _ (numL_get hq)
   rw [Addr.add_lit] at this
   exact this
theorem OwnL.congr {w : World} {base t k n : Nat} {v : Value} {U V : Nat → Int} (h : OwnL w base t k v n U) (e : ∀ q, q < n * k → U q = V q) : OwnL w base t k v n V := by
 unfold OwnL at *
 rw [show numL (n * k) V = numL (n * k) U from List.map_congr_left fun q hq => by rw [e q (List.mem_range.1 hq)]]
 exact h
theorem OwnL.kept {w w' : World} {base t k n : Nat} {v : Value} {U : Nat → Int} {row : Option Nat} (h : OwnL w base t k v n U) (hg : w.grownBy w' row) (hne : v.ownBlock = none ∨ v.ownBlock ≠ row) : OwnL w' base t k v n U := World.ownsRow.kept h hg hne
theorem below_grown {B : Nat} {w w' : World} (h : Below B w w') : B = w.heap.size → w.grownBy w' none := fun e => ⟨h.os, h.tape, h.output, h.size, fun k hk _ => h.block k (e ▸ hk)⟩
theorem OwnL.below {w w' : World} {base t k n : Nat} {v : Value} {U : Nat → Int} (h : OwnL w base t k v n U) (hb : Below w.heap.size w w') : OwnL w' base t k v n U := by
 have hg := below_grown hb rfl
 cases e : v.ownBlock with
 | none => exact World.ownsRow.kept h hg (.inl e)
 | some b => exact World.ownsRow.kept h hg (.inr (by rw [e]; simp))
theorem OwnL.lt {w : World} {base t k n : Nat} {v : Value} {U : Nat → Int} (h : OwnL w base t k v n U) : ∀ b, v.ownBlock = some b → base ≤ b ∧ b < w.heap.size := World.ownsRow.lt h
theorem OwnL.is {w : World} {base t k n : Nat} {v : Value} {U : Nat → Int} (h : OwnL w base t k v n U) : ∃ a c, v = .slice a n c := by
 rcases h.2 with ⟨hv, hn⟩ | ⟨g, cap, cur, hv, _⟩
 · exact ⟨none, 0, by rw [hv, hn]⟩
 · exact ⟨_, _, hv⟩
theorem OwnL.le {w : World} {base t k n : Nat} {a : Option Addr} {c : Nat} {U : Nat → Int} (h : OwnL w base t k (.slice a n c) n U) : n ≤ c := by
 rcases h.2 with ⟨hv, hn⟩ | ⟨g, cap, cur, hv, _, _, hle, _⟩
 · simp only [Value.slice.injEq] at hv; omega
 · simp only [Value.slice.injEq] at hv; omega
theorem Row.own {w : World} {b t n k base : Nat} {U : Nat → Int} (h : Row w b t (n * k) U) (hb : base ≤ b) (hn : n ≤ maxLen) : OwnL w base t k (.slice (some ⟨b, 0, none⟩) n n) n U := by
 obtain ⟨c, hc, hs, hv⟩ := h
 refine ⟨by rw [numL_len], .inr ⟨b, n, c, rfl, hb, hc, Nat.le_refl _, hn, hs, ?_⟩⟩
 apply List.ext_getElem?
 intro q
 by_cases hq : q < n * k
 · rw [List.getElem?_take, if_pos hq, numL_get hq, ← hv q hq]; simp
 · rw [List.getElem?_eq_none (by simp; omega), List.getElem?_eq_none (by rw [numL_len]; omega)]
theorem OwnL.base {w : World} {base t k n : Nat} {v : Value} {U : Nat → Int} {B : Nat} (h : OwnL w base t k v n U) (hB : B ≤ base) : OwnL w B t k v n U := by
 refine ⟨h.1, ?_⟩
 rcases h.2 with q | ⟨g, cap, cur, hv, hb, rest⟩
 · exact .inl q
 · exact .inr ⟨g, cap, cur, hv, by omega, rest⟩
theorem run_app {P : Program} (base t ty e k bytes : Nat) (z : Value) (ht : P.underlying t = some (.slice e)) (hinfo : (P.info? e).map (fun i => (i.zero, i.size, i.bytes)) = some (some z, k, bytes)) (hzs : z.cells.size = k) (hk : 0 < k)
 (w : World) (v : Value) (n : Nat) (U : Nat → Int) (h : OwnL w base e k v n U) (a : Option Addr) (m c : Nat) (X : Nat → Int) (hx : Flat w a (m * k) X)
 (h63 : n + m ≤ maxLen) (hbytes : (n + m) * bytes ≤ 140737488355328) (hbase : base ≤ w.heap.size) :
 ∃ a' c' w', (Builtin.append_ #[t, t] ty #[v, .slice a m c]).run P w = .ok (.slice a' (n + m) c') w' ∧ OwnL w' base e k (.slice a' (n + m) c') (n + m) (cat (n * k) U X) ∧ w.grownBy w' v.ownBlock := by
 obtain ⟨i, hi, hzz⟩ := Option.map_eq_some_iff.1 hinfo
 simp only [Prod.mk.injEq] at hzz
 obtain ⟨hz, hs, hb⟩ := hzz
 by_cases h0 : m = 0
 · subst h0
   obtain ⟨a0, c0, rfl⟩ := h.is
   have hle := h.le
   have hnone : Src P i.size t (.slice a 0 c) 0 [] w := by
    cases a with
    | none => exact Src.ofNil w ht c
    | some ad => exact Src.ofSlice w ht ad 0 c [] (by simp) (fun j u hu => by simp at hu) (fun _ hu => by cases hu)
   refine ⟨a0, c0, w, run_append_nothing w t t ty e i ht hi a0 n c0 hle _ hnone, h.congr fun q hq => by simp [cat, hq], ?_⟩
   exact ⟨rfl, rfl, rfl, Nat.le_refl _, fun _ _ _ => rfl⟩
 · obtain ⟨b, o, rfl, hbl, hc⟩ := hx (Nat.mul_pos (by omega) hk)
   obtain ⟨g, cap, w', hr, h2, h3, _⟩ := run_append_lies (P := P) w t ty base e i z k bytes ht hi hz hs hb hzs hk v n (numL (n * k) U) h ⟨b, o, none⟩ m c (numL (m * k) X) (numL_len _ _)
    (fun j u hu => by
      have hj : j < m * k := by have := (List.getElem?_eq_some_iff.1 hu).1; rwa [numL_len] at this
      rw [numL_get hj] at hu
      rw [Addr.add_lit, hc j hj]; exact hu)
    (fun u hu => by obtain ⟨q, _, rfl⟩ := List.mem_map.1 hu; rfl) (by omega) h63 hbytes hbase _ rfl
   refine ⟨_, _, w', hr, ?_, h3⟩
   unfold OwnL
   rw [Nat.add_mul, ← numL_cat]
   exact h2
section
variable {P : Program} {ops : Array Oper} {o : Oper} {a : Act} {Q : Exit → Act → World → Prop} {w : World}
theorem wp_app {K : Act → World → Prop} (s x : Operand) (t : TypeId) (ho : o.op = .call { callee := .builtin .append, args := #[s, x], argTypes := #[t, t] })
 (base e k bytes : Nat) (z : Value) (ht : P.underlying t = some (.slice e)) (hinfo : (P.info? e).map (fun i => (i.zero, i.size, i.bytes)) = some (some z, k, bytes)) (hzs : z.cells.size = k) (hk : 0 < k)
 (v : Value) (n : Nat) (U : Nat → Int) (hs : a.eval s = v) (h : OwnL w base e k v n U) (ad : Option Addr) (m c : Nat) (X : Nat → Int) (hxx : a.eval x = .slice ad m c) (hx : Flat w ad (m * k) X)
 (h63 : n + m ≤ maxLen) (hbytes : (n + m) * bytes ≤ 140737488355328) (hbase : base ≤ w.heap.size)
 (hK : ∀ a' c' w', OwnL w' base e k (.slice a' (n + m) c') (n + m) (cat (n * k) U X) → w.grownBy w' v.ownBlock → K (a.put o.dst (.slice a' (n + m) c')) w') : o.wp P a w K Q := by
 obtain ⟨a', c', w', hr, h2, h3⟩ := run_app (P := P) base t o.type e k bytes z ht hinfo hzs hk w v n U h ad m c X hx h63 hbytes hbase
 unfold Oper.wp execOp
 simp only [ho, resolve, invoke, builtin, Sem.run_bind, Sem.run_pure, Result.andThen_ok, List.map_toArray, List.map_cons, List.map_nil, hs, hxx, hr]
 exact hK _ _ _ h2 h3
theorem wpList_app {rest : List Oper} (hgd : o.guard = none) (s x : Operand) (t : TypeId) (ho : o.op = .call { callee := .builtin .append, args := #[s, x], argTypes := #[t, t] })
 (base e k bytes : Nat) (z : Value) (ht : P.underlying t = some (.slice e)) (hinfo : (P.info? e).map (fun i => (i.zero, i.size, i.bytes)) = some (some z, k, bytes)) (hzs : z.cells.size = k) (hk : 0 < k)
 (v : Value) (n : Nat) (U : Nat → Int) (hs : a.eval s = v) (h : OwnL w base e k v n U) (ad : Option Addr) (m c : Nat) (X : Nat → Int) (hxx : a.eval x = .slice ad m c) (hx : Flat w ad (m * k) X)
 (h63 : n + m ≤ maxLen) (hbytes : (n + m) * bytes ≤ 140737488355328) (hbase : base ≤ w.heap.size)
 (hK : ∀ a' c' w', OwnL w' base e k (.slice a' (n + m) c') (n + m) (cat (n * k) U X) → w.grownBy w' v.ownBlock → wpList P ops Q rest (a.put o.dst (.slice a' (n + m) c')) w') : wpList P ops Q (o :: rest) a w :=
 wpList_plain hgd fun _ hK' => wp_app s x t ho base e k bytes z ht hinfo hzs hk v n U hs h ad m c X hxx hx h63 hbytes hbase fun a' c' w' h2 h3 => hK' _ _ (hK a' c' w' h2 h3)
theorem step_app {K : Act → World → Prop} {E : Prop} (hgd : o.guard = none) (s x : Operand) (t : TypeId) (ho : o.op = .call { callee := .builtin .append, args := #[s, x], argTypes := #[t, t] })
 (base e k bytes : Nat) (z : Value) (ht : P.underlying t = some (.slice e)) (hinfo : (P.info? e).map (fun i => (i.zero, i.size, i.bytes)) = some (some z, k, bytes)) (hzs : z.cells.size = k) (hk : 0 < k)
 (v : Value) (n : Nat) (U : Nat → Int) (hs : a.eval s = v) (h : OwnL w base e k v n U) (ad : Option Addr) (m c : Nat) (X : Nat → Int) (hxx : a.eval x = .slice ad m c) (hx : Flat w ad (m * k) X)
 (h63 : n + m ≤ maxLen) (hbytes : (n + m) * bytes ≤ 140737488355328) (hbase : base ≤ w.heap.size)
 (hK : ∀ a' c' w', OwnL w' base e k (.slice a' (n + m) c') (n + m) (cat (n * k) U X) → w.grownBy w' v.ownBlock → K (a.put o.dst (.slice a' (n + m) c')) w') :
 if Region.wanted o (yielded ops a.tmps) = true then Oper.wp P o a w K Q else E := by
 have hw : Region.wanted o (yielded ops a.tmps) = true := by simp [Region.wanted, hgd]
 rw [if_pos hw]
 exact wp_app s x t ho base e k bytes z ht hinfo hzs hk v n U hs h ad m c X hxx hx h63 hbytes hbase hK
end
end Go.Proofs.YthijeiehcdoidaaGreat
namespace Go.Proofs.YthijeiehcdoidaaGreat
open Go.RowKit
set_option linter.unusedVariables false
section
variable {P : Program} {md : Region.Mode} {ops : Array Oper} {Q : Exit → Act → World → Prop} {S : World → Prop}
theorem td (i j : Nat) {o1 o2 o3 o4 o5 o6 p1 p2 p3 p4 p5 p6} {v u : Value} {fuel : Nat} {listed : Array Bool} {a a' : Act} {w w1 : World} (hS : S w)
 (h : S w1 → wpAnyH P md ops Q S fuel ((listed.setIfInBounds i true).setIfInBounds j true) a' w1)
 (hr : (Region.ready md ops listed = [i, j] ∧ Region.ready md ops (listed.setIfInBounds i true) = [j] ∧ Region.ready md ops (listed.setIfInBounds j true) = [i]) := by exact ⟨by kernel_rfl, by kernel_rfl, by kernel_rfl⟩)
 (hi : ops[i]? = some (Oper.mk o1 o2 o3 o4 o5 o6) := by rfl) (hj : ops[j]? = some (Oper.mk p1 p2 p3 p4 p5 p6) := by rfl)
 (hc : (Region.noSelect ops && ((Oper.mk o1 o2 o3 o4 o5 o6).apart ops (Oper.mk p1 p2 p3 p4 p5 p6) && (i != j))) = true := by kernel_rfl)
 (wi : Region.wanted (Oper.mk o1 o2 o3 o4 o5 o6) (yielded ops a.tmps) = true := by rfl) (wj : Region.wanted (Oper.mk p1 p2 p3 p4 p5 p6) (yielded ops a.tmps) = true := by rfl)
 (vi : (execOp a.eval (Oper.mk o1 o2 o3 o4 o5 o6)).run P w = .ok (.value v) w := by (go_simp; (try with_reducible rfl)))
 (vj : (execOp a.eval (Oper.mk p1 p2 p3 p4 p5 p6)).run P w = .ok (.value u) w1 := by (go_simp; (first | done | exact ⟨rfl, rfl⟩ | with_reducible rfl)))
 (vi1 : (execOp a.eval (Oper.mk o1 o2 o3 o4 o5 o6)).run P w1 = .ok (.value v) w1 := by (go_simp; (try with_reducible rfl)))
 (hS1 : S w1 := by ((try dsimp only); (first | (go_simp; done) | (go_keep; done))))
 (he : (a.put (Oper.mk o1 o2 o3 o4 o5 o6).dst v).put (Oper.mk p1 p2 p3 p4 p5 p6).dst u = a' := by ((try simp only [Act.put, List.setIfInBounds_toArray, List.set_cons_zero, List.set_cons_succ]); (try with_reducible rfl))) :
 wpAnyH P md ops Q S (fuel + 2) listed a w := by
 subst he
 simp only [Bool.and_eq_true] at hc
 obtain ⟨h1, h2, h3⟩ := Oper.apart_spec hc.2.1
 have hne : i ≠ j := by simpa using hc.2.2
 have hsel := Region.noSelect_spec hc.1
 obtain ⟨r0, r1, r2⟩ := hr
 refine ⟨fun e => (by rw [r0] at e; cases e), fun x hx => ?_⟩
 rw [r0] at hx
 rcases List.mem_cons.1 hx with rfl | hx
 · unfold wpOp
   rw [hi]
   simp only [wi, if_true]
   refine .inl ?_
   simp only [Oper.wp, vi, Oper.upon]
   refine ⟨hS, ⟨fun e => (by rw [r1] at e; cases e), fun y hy => ?_⟩⟩
   rw [r1] at hy
   obtain rfl := List.mem_singleton.1 hy
   unfold wpOp
   rw [hj]
   simp only [wanted_put _ a _ v h1, wj, if_true]
   refine .inl ?_
   rw [Oper.wp, execOp_put _ (fun cs b => hsel _ _ cs b hj) a _ v h1, vj]
   exact ⟨hS1, h hS1⟩
 · obtain rfl := List.mem_singleton.1 hx
   unfold wpOp
   rw [hj]
   simp only [wj, if_true]
   refine .inl ?_
   simp only [Oper.wp, vj, Oper.upon]
   refine ⟨hS1, ⟨fun e => (by rw [r2] at e; cases e), fun y hy => ?_⟩⟩
   rw [r2] at hy
   obtain rfl := List.mem_singleton.1 hy
   unfold wpOp
   rw [hi]
   simp only [wanted_put _ a _ u h3, wi, if_true]
   refine .inl ?_
   rw [Oper.wp, execOp_put _ (fun cs b => hsel _ _ cs b hi) a _ u h3, vi1]
   refine ⟨hS1, ?_⟩
   have := h hS1
   rw [Array.setIfInBounds_comm _ _ hne, Act.put_comm a v u h2] at this
   exact this
end
end Go.Proofs.YthijeiehcdoidaaGreat
namespace Go.Proofs.YthijeiehcdoidaaGreat
theorem head_cut {l : List (List Char)} {c : List Char} (h : (l.head? == some c) = true) : ∃ rest, l = c :: rest := by
 cases l with
 | nil => simp at h
 | cons a r => simp at h; exact ⟨r, by rw [h]⟩
theorem strip_cut (rest : List (List Char)) : stripLifts liftWords ("cut".toList :: rest) = ([], "cut".toList :: rest) := by kernel_rfl
theorem make_of {P : Program} {l : List Char} (h0 : P.initOrder.toList = l) (h1 : ((behindMainWord (wordsSigns l)).head? == some "cut".toList) = true) : P.make = some .cut := by
 obtain ⟨rest, hr⟩ := head_cut h1
 unfold Program.make
 rw [h0, hr]
 rfl
theorem headLifts_of {P : Program} {l : List Char} (h0 : P.initOrder.toList = l) (h1 : ((behindMainWord (wordsSigns l)).head? == some "cut".toList) = true) : P.headLifts = [] := by
 obtain ⟨rest, hr⟩ := head_cut h1
 unfold Program.headLifts
 rw [h0, hr, strip_cut]
 rfl
theorem liftsFinal_of {P : Program} {l : List Char} (h0 : P.initOrder.toList = l) (h1 : ((behindMainWord (wordsSigns l)).head? == some "cut".toList) = true) : P.liftsFinal = false := by
 have hh := headLifts_of h0 h1
 obtain ⟨rest, hr⟩ := head_cut h1
 unfold Program.liftsFinal
 rw [h0, hr, hh]
 rfl
theorem mayEnter_of {P : Program} {l : List Char} (h0 : P.initOrder.toList = l) (h1 : ((behindMainWord (wordsSigns l)).head? == some "cut".toList) = true) (h2 : P.laysLater = false) (h3 : P.bearsReflect = false) (h4 : P.doorFits [] = true) : P.mayEnter = true := by
 obtain ⟨rest, hr⟩ := head_cut h1
 unfold Program.mayEnter
 rw [h0, hr]
 simp only [strip_cut, h2, h3, h4]
 simp
end Go.Proofs.YthijeiehcdoidaaGreat
