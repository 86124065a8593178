/- Texts of a proof. -/
import Derived.Test.YtmnhankcbkfhaaaGreatDoorB19
import Derived.Test.YtmnhankcbkfhaaaGreatDoorB3
import Derived.Deep.RegionHeld3
import Derived.Deep.DeepCutAuto
import Derived.Test.YtmnhankcbkfhaaaGreatDoorB4
import Derived.Test.YtmnhankcbkfhaaaGreatDoorB30
import Derived.Deep.AppendLies
import Derived.Laws.OwnMore
import Derived.Test.YtmnhankcbkfhaaaGreatDoorB28
import Derived.Test.YtmnhankcbkfhaaaGreatDoorB14
import Derived.WalkKit
import Derived.LaidEql
import Derived.Stop.Asserts
import Derived.RowKitTokens
set_option maxHeartbeats 16000000
set_option maxRecDepth 20000
namespace Go.Proofs.YtmnhankcbkfhaaaGreatDoor
open Go.RowKit
set_option linter.unusedVariables false
set_option linter.unusedSimpArgs false
structure LsV (w wr : World) (t k : Nat) (a : Option Addr) (m c : Nat) (l : List Int) : Prop where
 bel : Below w.heap.size w wr
 len : l.length = m * k
 own : OwnL wr w.heap.size t k (.slice a m c) m (ofL l)
theorem LsV.below {w wr w' : World} {t k m c : Nat} {a : Option Addr} {l : List Int} (h : LsV w wr t k a m c l) (hb : Below wr.heap.size wr w') : LsV w w' t k a m c l := ⟨h.bel.trans (hb.mono h.bel.size), h.len, h.own.below hb⟩
theorem LsV.push {w wr w1 : World} {t k m c c' : Nat} {a a' : Option Addr} {l x : List Int} (h : LsV w wr t k a m c l) (hx : x.length = k) (hg : wr.grownBy w1 (Value.slice a m c).ownBlock) (ho : OwnL w1 w.heap.size t k (.slice a' (m + 1) c') (m + 1) (cat (m * k) (ofL l) (ofL x))) : LsV w w1 t k a' (m + 1) c' (l ++ x) :=
 ⟨h.bel.grown hg h.bel.size (fun b e => (h.own.lt b e).1), by rw [List.length_append, h.len, hx, Nat.succ_mul], by rw [← cat_ofL, h.len]; exact ho⟩
theorem LsV.new (w : World) (t k : Nat) : LsV w (w.alloc (.cells #[] t)) t k (some ⟨w.heap.size, 0, none⟩) 0 0 [] :=
 ⟨(Below.refl _ _).alloc (Nat.le_refl _) _, by simp, ⟨by simp [numL], .inr ⟨w.heap.size, 0, #[], rfl, Nat.le_refl _, Go.Deep.blk_alloc_new _ _, Nat.le_refl _, Nat.zero_le _, by simp, by simp [numL]⟩⟩⟩
theorem LsV.nil (w : World) (t k : Nat) : LsV w w t k none 0 0 [] := ⟨Below.refl _ _, by simp, OwnL.nil _ _ _ _ _⟩
theorem LsV.out {w0 w wr : World} {t k m c : Nat} {a : Option Addr} {l : List Int} (h : LsV w wr t k a m c l) (hb : Below w0.heap.size w0 w) : OutL w0 wr t k a m c (ofL l) := ⟨hb.trans (h.bel.mono hb.size), h.own.base hb.size⟩
structure LV (w wr : World) (t g cap n : Nat) (xs : List Value) : Prop where
 bel : Below w.heap.size w wr
 len : xs.length = n
 own : wr.ownsRow w.heap.size t 1 (.slice (some ⟨g, 0, none⟩) n cap) n xs
theorem LV.new {w wr : World} (t : Nat) (h : Below w.heap.size w wr) {s : Nat} (e : wr.heap.size = s) : LV w (wr.alloc (.cells #[] t)) t s 0 0 [] := by
 subst e
 exact ⟨h.alloc h.size _, rfl, ⟨rfl, .inr ⟨wr.heap.size, 0, #[], rfl, h.size, Go.Deep.blk_alloc_new _ _, Nat.le_refl _, Nat.zero_le _, by simp, by simp⟩⟩⟩
theorem LV.lt {w wr : World} {t g cap n : Nat} {xs : List Value} (h : LV w wr t g cap n xs) : w.heap.size ≤ g ∧ g < wr.heap.size := World.ownsRow.lt h.own g rfl
theorem LV.fro {w wr : World} {t g cap n : Nat} {xs : List Value} (h : LV w wr t g cap n xs) (j : Nat) : wr.frozen? ⟨g, j, none⟩ = false := World.ownsRow.frozenAt h.own j
theorem LV.cell {w wr : World} {t g cap n : Nat} {xs : List Value} (h : LV w wr t g cap n xs) {j : Nat} {u : Value} (hu : xs[j]? = some u) : wr.cell? ⟨g, j, none⟩ = some u := by
 have hj : j < n := by rw [← h.len]; exact (List.getElem?_eq_some_iff.1 hu).1
 rw [World.ownsRow.cellAt h.own j (by omega), hu]
theorem LV.on {w wr w' : World} {t g cap n : Nat} {xs : List Value} (h : LV w wr t g cap n xs) (hb : Below wr.heap.size wr w') : LV w w' t g cap n xs :=
 ⟨h.bel.trans (hb.mono h.bel.size), h.len, World.ownsRow.kept h.own (below_grown hb rfl) (.inr (by simp [Value.ownBlock]))⟩
theorem LV.dr {w wr : World} {t g cap n : Nat} {xs : List Value} (h : LV w wr t g cap n xs) : LV w wr.drew t g cap n xs := h.on (Below.drew (Below.refl _ _))
theorem LV.set {w wr : World} {t g cap n : Nat} {xs : List Value} (h : LV w wr t g cap n xs) (j : Nat) (u : Value) : LV w (wr.setCell ⟨g, j, none⟩ u) t g cap n (xs.set j u) :=
 ⟨h.bel.setCell h.lt.1 _, by rw [List.length_set]; exact h.len, (World.ownsRow.stored h.own j u).1⟩
theorem LV.ne {w wr : World} {t g cap n : Nat} {xs : List Value} (h : LV w wr t g cap n xs) {b : Nat} (hb : w.heap.size ≤ b) (hn : b ≠ g) (j : Nat) (u : Value) : LV w (wr.setCell ⟨b, j, none⟩ u) t g cap n xs :=
 ⟨h.bel.setCell hb _, h.len, World.ownsRow.kept h.own (row := some b) (by
  have hs := Fr.setCell (X := fun k => k = b) (w := wr) (p := ⟨b, j, none⟩) rfl u
  exact ⟨hs.os, hs.tape, hs.output, hs.size, fun k hk hne => hs.block k hk (fun e => hne (by rw [e]))⟩) (.inr (by simp [Value.ownBlock]; exact fun e => hn e.symm))⟩
theorem LV.kept {w wr w' : World} {t g cap n row : Nat} {xs : List Value} (h : LV w wr t g cap n xs) (hg : wr.grownBy w' (some row)) (hb : w.heap.size ≤ row) (hn : row ≠ g) : LV w w' t g cap n xs :=
 ⟨h.bel.grown hg h.bel.size (fun b e => by cases e; exact hb), h.len, World.ownsRow.kept h.own hg (.inr (by simp [Value.ownBlock]; exact fun e => hn e.symm))⟩
theorem wpList_push {P : Program} {ops : Array Oper} {rest : List Oper} {o : Oper} {a : Act} {Q : Exit → Act → World → Prop} {w wr wx : World} (hgd : o.guard = none) (s x : Operand) (t : TypeId)
 (ho : o.op = .call { callee := .builtin .append, args := #[s, x], argTypes := #[t, t] })
 (e bytes : Nat) (z : Value) (ht : P.underlying t = some (.slice e)) (hinfo : (P.info? e).map (fun i => (i.zero, i.size, i.bytes)) = some (some z, 1, bytes)) (hzs : z.cells.size = 1) (hby : bytes ≤ 8)
 (g cap n : Nat) (xs : List Value) (hs : a.eval s = .slice (some ⟨g, 0, none⟩) n cap) (h : LV w wr e g cap n xs) (hb : Below wr.heap.size wr wx) (b : Nat) (hx : a.eval x = .slice (some ⟨b, 0, none⟩) 1 1) (u : Value) (hu : wx.cell? ⟨b, 0, none⟩ = some u) (h1 : u.oneCell' = true)
 (hn : n ≤ 1048576) (hK : ∀ g' cap' w', LV w w' e g' cap' (n + 1) (xs ++ [u]) → wx.grownBy w' (some g) → (g' = g ∨ g' = wx.heap.size) → wpList P ops Q rest (a.put o.dst (.slice (some ⟨g', 0, none⟩) (n + 1) cap')) w') : wpList P ops Q (o :: rest) a wx := by
 obtain ⟨i, hi, hzz⟩ := Option.map_eq_some_iff.1 hinfo
 simp only [Prod.mk.injEq] at hzz
 obtain ⟨hz, hsz, hb8⟩ := hzz
 have hw := h.on hb
 refine wpList_append_lies wx hgd s x t ho w.heap.size e i z 1 bytes ht hi hz hsz hb8 hzs (by decide) (.slice (some ⟨g, 0, none⟩) n cap) n xs hs hw.own ⟨b, 0, none⟩ 1 1 [u] hx rfl ?_ ?_ (by decide) (by unfold maxLen; omega) ?_ hw.bel.size _ rfl ?_
 · intro j v hv
   cases j with
   | zero => simp at hv; subst hv; exact hu
   | succ j => simp at hv
 · intro v hv; simp at hv; rw [hv]; exact h1
 · have : (n + 1) * bytes ≤ (n + 1) * 8 := Nat.mul_le_mul_left _ hby
   omega
 · intro g' cap' w' r1 r2 r3 r4
   refine hK g' cap' w' ⟨hw.bel.grown r2 hw.bel.size (fun b e => by cases e; exact hw.lt.1), by rw [List.length_append, hw.len]; rfl, r1⟩ r2 ?_
   rcases r3 with r3 | r3
   · simp [Value.ownBlock] at r3; exact .inl r3.symm
   · exact .inr r3
def IV (l : List Int) : List Value := l.map (Value.int .i64)
theorem IV_app (l : List Int) (x : Int) : IV l ++ [.int .i64 x] = IV (l ++ [x]) := by unfold IV; rw [List.map_append]; rfl
theorem IV_set (l : List Int) (j : Nat) (x : Int) : (IV l).set j (.int .i64 x) = IV (l.set j x) := by unfold IV; rw [List.map_set]
theorem IV_len (l : List Int) : (IV l).length = l.length := by unfold IV; rw [List.length_map]
theorem IV_get {l : List Int} {j : Nat} (h : j < l.length) : (IV l)[j]? = some (.int .i64 (ofL l j)) := by
 unfold IV ofL
 rw [List.getElem?_map, List.getElem?_eq_getElem h, List.getD_eq_getElem?_getD, List.getElem?_eq_getElem h]
 rfl
theorem LV.flat {w wr : World} {t g cap n : Nat} {l : List Int} (h : LV w wr t g cap n (IV l)) : Flat wr (some ⟨g, 0, none⟩) (n * 1) (ofL l) := by
 intro h0
 refine ⟨g, 0, rfl, h.lt.2, fun j hj => ?_⟩
 rw [Nat.zero_add]
 have hl := h.len
 rw [IV_len] at hl
 exact h.cell (IV_get (by omega))
theorem LV.ic {w wr : World} {t g cap n : Nat} {l : List Int} (h : LV w wr t g cap n (IV l)) {j : Nat} (hj : j < n) : wr.cell? ⟨g, j, none⟩ = some (.int .i64 (ofL l j)) := by
 have hl := h.len
 rw [IV_len] at hl
 exact h.cell (IV_get (by omega))
abbrev zcInt : Value := .int .i64 0
theorem infoInt : (Tryz.prog.info? 3).map (fun i => (i.zero, i.size, i.bytes)) = some (some zcInt, 1, 8) := by kernel_rfl
def ctsB (n : Nat) (C : Nat → Int) : Nat → Bool
 | 0 => true
 | k + 1 => ctsB n C k && atB n (C (k * 5)) (C (k * 5 + 1)) (C (k * 5 + 2)) (C (k * 5 + 3)) (C (k * 5 + 4))
structure Mo (w wr : World) (cb n rb k : Nat) (U C : Nat → Int) (S : Nat → Value) (v : Value) : Prop where
 cs : Cs wr cb n (colOf U) S
 r0 : wr.cell? ⟨rb, 0, none⟩ = some v
 r1 : wr.cell? ⟨rb, 1, none⟩ = some (.int .i64 0)
 f0 : wr.frozen? ⟨rb, 0, none⟩ = false
 f1 : wr.frozen? ⟨rb, 1, none⟩ = false
 ml : ML wr (rb + 1) cb v C k
 bel : Below w.heap.size w wr
 rl : rb < wr.heap.size
theorem Mo.on {w wr : World} {cb n rb k : Nat} {U C : Nat → Int} {S : Nat → Value} {v : Value} {w' : World} (h : Mo w wr cb n rb k U C S v) (hb : Below wr.heap.size wr w') : Mo w w' cb n rb k U C S v :=
 ⟨h.cs.below hb, (hb.cell (p := ⟨rb, 0, none⟩) h.rl).trans h.r0, (hb.cell (p := ⟨rb, 1, none⟩) h.rl).trans h.r1, (hb.frozen (p := ⟨rb, 0, none⟩) h.rl).trans h.f0, (hb.frozen (p := ⟨rb, 1, none⟩) h.rl).trans h.f1, h.ml.below hb, h.bel.trans (hb.mono h.bel.size), Nat.lt_of_lt_of_le h.rl hb.size⟩
theorem Mo.push {w wr : World} {cb n rb k : Nat} {U C : Nat → Int} {S : Nat → Value} {v : Value} {W w7 : World} {g c : Nat} (h : Mo w wr cb n rb k U C S v) (hb : Below wr.heap.size wr W) (hg : W.grownBy w7 v.ownBlock) (ho : ML w7 (rb + 1) cb (.slice (some ⟨g, 0, none⟩) (k + 1) c) C (k + 1)) (hwr : w.heap.size ≤ rb) (hcb : cb < rb) (hxr : ∀ b, Xc S b → b < rb) :
 (w7.cell? ⟨rb, 0, none⟩ = some v ∧ w7.frozen? ⟨rb, 0, none⟩ = false ∧ rb < w7.heap.size) ∧ Mo w (w7.setCell ⟨rb, 0, none⟩ (.slice (some ⟨g, 0, none⟩) (k + 1) c)) cb n rb (k + 1) U C S (.slice (some ⟨g, 0, none⟩) (k + 1) c) := by
 have h1 := h.on hb
 have hlt := h1.ml.lt
 have hF : Fr (fun b => v.ownBlock = some b) W w7 := Fr.grown hg (fun b e => e) h1.ml.isCells
 have nr : ¬ v.ownBlock = some rb := fun e => by have := (hlt rb e).1; omega
 have n0 := (hF.cell (p := ⟨rb, 0, none⟩) h1.rl nr).trans h1.r0
 have n1 := (hF.cell (p := ⟨rb, 1, none⟩) h1.rl nr).trans h1.r1
 have m0 := (hF.frozen (p := ⟨rb, 0, none⟩) h1.rl nr).trans h1.f0
 have m1 := (hF.frozen (p := ⟨rb, 1, none⟩) h1.rl nr).trans h1.f1
 have l7 : rb < w7.heap.size := Nat.lt_of_lt_of_le h1.rl hF.size
 have c7 := h1.cs.frame hF (fun e => by have := (hlt cb e).1; omega) (fun b hx e => by have := (hlt b e).1; have := hxr b hx; omega)
 have hS : Fr (fun b => b = rb) w7 (w7.setCell ⟨rb, 0, none⟩ (.slice (some ⟨g, 0, none⟩) (k + 1) c)) := Fr.setCell (X := fun b => b = rb) rfl _
 refine ⟨⟨n0, m0, l7⟩, c7.frame hS (by show ¬ cb = rb; omega) (fun b hx e => by have := hxr b hx; omega), by go_simp, by go_simp, by go_simp, by go_simp, ho.frame hS (fun b e e2 => by have := (ho.lt b e).1; omega), ?_, by simpa using l7⟩
 exact (h1.bel.trans (hF.below (by have := h1.bel.size; omega) (fun b e => by have := (hlt b e).1; omega))).trans (hS.below (by have := hF.size; have := h1.bel.size; omega) (fun b e => by omega))
end Go.Proofs.YtmnhankcbkfhaaaGreatDoor
namespace Go.Proofs.YtmnhankcbkfhaaaGreatDoor
open Go.RowKit Go.Extern.Stop Go.Stop Go.Extern
set_option linter.unusedVariables false
set_option linter.unusedSimpArgs false
theorem rl_valPP (t : Addr) (w : World) : (ReflectliteValue.unpack (.iface 77 (.pointer (some t)))).run Tryz.prog w = .ok (.agg #[.pointer (some ⟨1, 77, none⟩), .pointer (some ⟨w.heap.size, 0, none⟩), .int .u64 150]) (w.alloc (.cells #[.pointer (some t)] 77)) := by kernel_rfl
theorem rl_valP (e : Addr) (w : World) : (ReflectliteValue.unpack (.iface 75 (.pointer (some e)))).run Tryz.prog w = .ok (.agg #[.pointer (some ⟨1, 75, none⟩), .pointer (some ⟨w.heap.size, 0, none⟩), .int .u64 150]) (w.alloc (.cells #[.pointer (some e)] 75)) := by kernel_rfl
theorem rl_type (a : Addr) (w : World) : (ReflectliteValue.methodAny (ReflectliteValue.valueError "reflectlite.Value.Type" 0) (fun t _ _ _ => ReflectliteType.toType t) #[.agg #[.pointer (some ⟨1, 77, none⟩), .pointer (some a), .int .u64 150]]).run Tryz.prog w = .ok (.iface 152 (.agg #[.pointer (some ⟨1, 77, none⟩)])) w := by kernel_rfl
theorem rl_mK (h : Value) (w : World) : (Go.method 374 152 (.agg #[h]) "Kind").run Tryz.prog w = .ok ((202, h)) w := by kernel_rfl
theorem rl_mE (h : Value) (w : World) : (Go.method 374 152 (.agg #[h]) "Elem").run Tryz.prog w = .ok ((215, .agg #[h])) w := by kernel_rfl
theorem rl_mI (h : Value) (w : World) : (Go.method 374 152 (.agg #[h]) "Implements").run Tryz.prog w = .ok ((216, .agg #[h])) w := by kernel_rfl
theorem rl_mA (h : Value) (w : World) : (Go.method 374 152 (.agg #[h]) "AssignableTo").run Tryz.prog w = .ok ((213, .agg #[h])) w := by kernel_rfl
theorem rl_kPP (w : World) : ((ReflectliteType.abiMethod fun t => (fun a : Nat => Value.int IntKind.u8 (a : Int)) <$> Rtype.kind t) #[.pointer (some ⟨1, 77, none⟩)]).run Tryz.prog w = .ok (.int .u8 22) w := by kernel_rfl
theorem rl_kP (w : World) : ((ReflectliteType.abiMethod fun t => (fun a : Nat => Value.int IntKind.u8 (a : Int)) <$> Rtype.kind t) #[.pointer (some ⟨1, 75, none⟩)]).run Tryz.prog w = .ok (.int .u8 22) w := by kernel_rfl
theorem rl_elem (w : World) : (ReflectliteType.method ReflectliteType.elem #[.agg #[.pointer (some ⟨1, 77, none⟩)]]).run Tryz.prog w = .ok (.iface 152 (.agg #[.pointer (some ⟨1, 75, none⟩)])) w := by kernel_rfl
theorem rl_impl (w : World) : (ReflectliteType.relation "Implements" ReflectliteType.implements_ #[.agg #[.pointer (some ⟨1, 75, none⟩)], .iface 152 (.agg #[.pointer (some ⟨1, 48, none⟩)])]).run Tryz.prog w = .ok (.bool true) w := by kernel_rfl
theorem rl_typeOf (v : Value) (w : World) : (ReflectliteType.typeOf #[.iface 75 v]).run Tryz.prog w = .ok (.iface 152 (.agg #[.pointer (some ⟨1, 75, none⟩)])) w := by kernel_rfl
theorem rl_asg (w : World) : (ReflectliteType.relation "AssignableTo" ReflectliteType.assignableTo #[.agg #[.pointer (some ⟨1, 75, none⟩)], .iface 152 (.agg #[.pointer (some ⟨1, 75, none⟩)])]).run Tryz.prog w = .ok (.bool true) w := by kernel_rfl
theorem rl_m (z : Sem Value) (f : TypeId → Addr → Nat → Nat → Sem Value) (v : Value) : ReflectliteValue.method z f #[v] = (do match ← ReflectliteValue.parts v with | none => z | some (t, a, fl) => f t a fl (fl % 32)) := rfl
theorem rl_partsPP (a : Addr) (w : World) : (ReflectliteValue.parts (.agg #[.pointer (some ⟨1, 77, none⟩), .pointer (some a), .int .u64 150])).run Tryz.prog w = .ok (some (77, a, 150)) w := by kernel_rfl
theorem rl_partsP (a : Addr) (w : World) : (ReflectliteValue.parts (.agg #[.pointer (some ⟨1, 75, none⟩), .pointer (some a), .int .u64 150])).run Tryz.prog w = .ok (some (75, a, 150)) w := by kernel_rfl
theorem rl_partsA (a : Addr) (w : World) : (ReflectliteValue.parts (.agg #[.pointer (some ⟨1, 75, none⟩), .pointer (some a), .int .u64 406])).run Tryz.prog w = .ok (some (75, a, 406)) w := by kernel_rfl
theorem rl_eOf (w : World) : (Rtype.elem? 77).run Tryz.prog w = .ok (some 75) w := by kernel_rfl
theorem rl_mk (p : Addr) (w : World) : (ReflectliteValue.mk 75 p ReflectliteValue.flagAddr).run Tryz.prog w = .ok (.agg #[.pointer (some ⟨1, 75, none⟩), .pointer (some p), .int .u64 406]) w := by kernel_rfl
theorem rl_dir (w : World) : (Rtype.directlyAssignable 75 75).run Tryz.prog w = .ok (true) w := by kernel_rfl
theorem rl_isNil (a p : Addr) (W : World) (ha : W.cell? a = some (.pointer (some p))) : (ReflectliteValue.method (ReflectliteValue.valueError "reflectlite.Value.IsNil" 0) ReflectliteValue.isNil #[.agg #[.pointer (some ⟨1, 77, none⟩), .pointer (some a), .int .u64 150]]).run Tryz.prog W = .ok (.bool false) W := by
 rw [rl_m]
 simp only [Sem.run_bind, rl_partsPP, Result.andThen]
 simp [ReflectliteValue.isNil, loadVar, isAgg, underlying, Tryz.underlying77, ha, Result.andThen]
theorem rl_elemV (a p : Addr) (W : World) (ha : W.cell? a = some (.pointer (some p))) : (ReflectliteValue.method (ReflectliteValue.valueError "reflectlite.Value.Elem" 0) ReflectliteValue.elem #[.agg #[.pointer (some ⟨1, 77, none⟩), .pointer (some a), .int .u64 150]]).run Tryz.prog W = .ok (.agg #[.pointer (some ⟨1, 75, none⟩), .pointer (some p), .int .u64 406]) W := by
 rw [rl_m]
 simp only [Sem.run_bind, rl_partsPP, Result.andThen]
 simp [ReflectliteValue.elem, loadVar, isAgg, underlying, Tryz.underlying77, ha, Result.andThen, rl_eOf, rl_mk]
theorem rl_two {motive : Array Value → Sort _} (v x : Value) (f : ∀ v x, motive #[v, x]) (g : ∀ a, motive a) : ReflectliteValue.set.match_3 motive #[v, x] f g = f v x := rfl
theorem rl_set (ta b e : Addr) (old : Value) (W : World) (hb : W.cell? b = some (.pointer (some e))) (ht : W.cell? ta = some old) (hf : W.frozen? ta = false) :
 (ReflectliteValue.set #[.agg #[.pointer (some ⟨1, 75, none⟩), .pointer (some ta), .int .u64 406], .agg #[.pointer (some ⟨1, 75, none⟩), .pointer (some b), .int .u64 150]]).run Tryz.prog W = .ok (.tuple #[]) (W.setCell ta (.pointer (some e))) := by
 delta ReflectliteValue.set
 rw [rl_two]
 simp only [Sem.run_bind, rl_partsA, rl_partsP, Result.andThen]
 simp [ReflectliteValue.flagAddr, loadVar, isAgg, underlying, Tryz.underlying75, hb, Result.andThen, rl_dir, storeVar, Value.cells, storeCells, Addr.add]
 rw [run_store Tryz.prog W ta _ _ (by rfl)]
 simp [ht, hf]
theorem as_refusal (e t : Addr) (old : Value) (w : World) (hg : w.cell? ⟨0, 0, none⟩ = some (.iface 152 (.agg #[.pointer (some ⟨1, 48, none⟩)]))) (ht0 : w.cell? t = some old) (hf0 : w.frozen? t = false) :
 Calls Tryz.prog 42 #[.iface 75 (.pointer (some e)), .iface 77 (.pointer (some t))] w fun ev w' => ev = .returned (.bool true) ∧ w' = ((((w.alloc (.cells #[.pointer (some t)] 77)).alloc (.cells #[.pointer (some ⟨1, 77, none⟩), .pointer (some ⟨w.heap.size, 0, none⟩), .int .u64 150] 111)).alloc (.cells #[.pointer (some ⟨1, 77, none⟩), .pointer (some ⟨w.heap.size, 0, none⟩), .int .u64 150] 111)).alloc (.cells #[.pointer (some e)] 75)).setCell t (.pointer (some e)) := by
 have h1 := @run_callFunc_extern Tryz.prog 61 _ (fun args => ReflectliteValue.unpack (args.getD 0 (.tuple #[]))) Tryz.func61 (by kernel_rfl) (by kernel_rfl) (by kernel_rfl) (by kernel_rfl)
 have h2 := @run_callFunc_extern Tryz.prog 62 _ (ReflectliteValue.methodAny (ReflectliteValue.valueError "reflectlite.Value.Type" 0) (fun t _ _ _ => ReflectliteType.toType t)) Tryz.func62 (by kernel_rfl) (by kernel_rfl) (by kernel_rfl) (by kernel_rfl)
 have h3 := @run_callFunc_extern Tryz.prog 63 _ (ReflectliteValue.method (ReflectliteValue.valueError "reflectlite.Value.IsNil" 0) ReflectliteValue.isNil) Tryz.func63 (by kernel_rfl) (by kernel_rfl) (by kernel_rfl) (by kernel_rfl)
 have h4 := @run_callFunc_extern Tryz.prog 202 _ (ReflectliteType.abiMethod fun t => do pure (.int .u8 (← Rtype.kind t))) Tryz.func202 (by kernel_rfl) (by kernel_rfl) (by kernel_rfl) (by kernel_rfl)
 have h5 := @run_callFunc_extern Tryz.prog 215 _ (ReflectliteType.method ReflectliteType.elem) Tryz.func215 (by kernel_rfl) (by kernel_rfl) (by kernel_rfl) (by kernel_rfl)
 have h6 := @run_callFunc_extern Tryz.prog 216 _ (ReflectliteType.relation "Implements" ReflectliteType.implements_) Tryz.func216 (by kernel_rfl) (by kernel_rfl) (by kernel_rfl) (by kernel_rfl)
 have h7 := @run_callFunc_extern Tryz.prog 95 _ (ReflectliteType.typeOf) Tryz.func95 (by kernel_rfl) (by kernel_rfl) (by kernel_rfl) (by kernel_rfl)
 have h8 := @run_callFunc_extern Tryz.prog 213 _ (ReflectliteType.relation "AssignableTo" ReflectliteType.assignableTo) Tryz.func213 (by kernel_rfl) (by kernel_rfl) (by kernel_rfl) (by kernel_rfl)
 have h9 := @run_callFunc_extern Tryz.prog 96 _ (ReflectliteValue.method (ReflectliteValue.valueError "reflectlite.Value.Elem" 0) ReflectliteValue.elem) Tryz.func96 (by kernel_rfl) (by kernel_rfl) (by kernel_rfl) (by kernel_rfl)
 have h10 := @run_callFunc_extern Tryz.prog 97 _ (ReflectliteValue.set) Tryz.func97 (by kernel_rfl) (by kernel_rfl) (by kernel_rfl) (by kernel_rfl)
 have k0 := rl_typeOf
 have k1 := rl_mA
 have k2 := rl_asg
 have k3 := rl_valP
 have k4 := rl_valPP
 have k5 := rl_type
 have k6 := rl_mK
 have k7 := rl_mE
 have k8 := rl_mI
 have k9 := rl_kPP
 have k10 := rl_kP
 have k11 := rl_elem
 have k12 := rl_impl
 have n8 := rl_isNil ⟨w.heap.size, 0, none⟩ t ((w.alloc (.cells #[.pointer (some t)] 77)).alloc (.cells #[.pointer (some ⟨1, 77, none⟩), .pointer (some ⟨w.heap.size, 0, none⟩), .int .u64 150] 111)) (by simp)
 have hlt : 0 < w.heap.size := by
  rcases Nat.eq_zero_or_pos w.heap.size with h0 | h
  · simp [World.cell?, h0] at hg
  · exact h
 have hg2 : ((w.alloc (.cells #[.pointer (some t)] 77)).alloc (.cells #[.pointer (some ⟨1, 77, none⟩), .pointer (some ⟨w.heap.size, 0, none⟩), .int .u64 150] 111)).cell? ⟨0, 0, none⟩ = some (.iface 152 (.agg #[.pointer (some ⟨1, 48, none⟩)])) := by
  rw [World.cell?_alloc_lt _ _ ⟨0, 0, none⟩ (by simp), World.cell?_alloc_lt _ _ ⟨0, 0, none⟩ hlt]; exact hg
 have htl : t.block < w.heap.size := by
  rcases Nat.lt_or_ge t.block w.heap.size with h | h
  · exact h
  · simp [World.cell?, Array.getElem?_eq_none h] at ht0
 have el := rl_elemV ⟨w.heap.size, 0, none⟩ t (((w.alloc (.cells #[.pointer (some t)] 77)).alloc (.cells #[.pointer (some ⟨1, 77, none⟩), .pointer (some ⟨w.heap.size, 0, none⟩), .int .u64 150] 111)).alloc (.cells #[.pointer (some ⟨1, 77, none⟩), .pointer (some ⟨w.heap.size, 0, none⟩), .int .u64 150] 111)) (by rw [World.cell?_alloc_lt _ _ ⟨w.heap.size, 0, none⟩ (by simp; omega)]; simp)
 have st := rl_set t ⟨w.heap.size + 1 + 1 + 1, 0, none⟩ e old ((((w.alloc (.cells #[.pointer (some t)] 77)).alloc (.cells #[.pointer (some ⟨1, 77, none⟩), .pointer (some ⟨w.heap.size, 0, none⟩), .int .u64 150] 111)).alloc (.cells #[.pointer (some ⟨1, 77, none⟩), .pointer (some ⟨w.heap.size, 0, none⟩), .int .u64 150] 111)).alloc (.cells #[.pointer (some e)] 75))
  (by rw [World.cell?_alloc_at _ _ _ _ (by simp)]; rfl)
  (by rw [World.cell?_alloc_lt _ _ t (by simp; omega), World.cell?_alloc_lt _ _ t (by simp; omega), World.cell?_alloc_lt _ _ t (by simp; omega), World.cell?_alloc_lt _ _ t htl]; exact ht0)
  (by rw [World.frozen?_alloc_old _ _ t (by simp; omega), World.frozen?_alloc_old _ _ t (by simp; omega), World.frozen?_alloc_old _ _ t (by simp; omega), World.frozen?_alloc_old _ _ t (Nat.ne_of_lt htl)]; exact hf0)
 go_enter Tryz.func42, Tryz.ntmps42
 go_wp2
 refine wp_loop_rounds 1 ?_
 rw [rounds_succ]
 go_wp2
 go_ret
 exact ⟨rfl, rfl⟩
theorem as_nil (x : Value) (w : World) : Calls Tryz.prog 42 #[.nilIface, x] w fun e w' => e = .returned (.bool false) ∧ w' = w := by
 go_enter Tryz.func42, Tryz.ntmps42
 go_wp2
 go_ret
 exact ⟨rfl, rfl⟩
theorem refused_nil (w : World) : Calls Tryz.prog 21 #[.nilIface] w fun e w' => e = .returned (.bool false) ∧ Below w.heap.size w w' := by
 go_enter Tryz.func21, Tryz.ntmps21
 go_wp2_with (go_at_call 42; refine (as_nil _ _).mono ?_; rintro e w1 ⟨rfl, rfl⟩)
 go_ret
 exact ⟨rfl, (Below.refl _ _).alloc (Nat.le_refl _) _⟩
theorem refused_yes (e : Addr) (w : World) (hg : w.cell? ⟨0, 0, none⟩ = some (.iface 152 (.agg #[.pointer (some ⟨1, 48, none⟩)]))) : Calls Tryz.prog 21 #[.iface 75 (.pointer (some e))] w fun e w' => e = .returned (.bool true) ∧ Below w.heap.size w w' := by
 have hlt : 0 < w.heap.size := by
  rcases Nat.eq_zero_or_pos w.heap.size with h0 | h
  · simp [World.cell?, h0] at hg
  · exact h
 have hg1 : (w.alloc (.cells #[.pointer none] 75)).cell? ⟨0, 0, none⟩ = some (.iface 152 (.agg #[.pointer (some ⟨1, 48, none⟩)])) := by rw [World.cell?_alloc_lt _ _ ⟨0, 0, none⟩ hlt]; exact hg
 go_enter Tryz.func21, Tryz.ntmps21
 go_wp2_with (go_at_call 42; refine (as_refusal e ⟨w.heap.size, 0, none⟩ (.pointer none) _ hg1 (by go_simp) (by go_simp)).mono ?_; rintro e w1 ⟨rfl, rfl⟩)
 go_ret
 exact ⟨rfl, bel_a⟩
end Go.Proofs.YtmnhankcbkfhaaaGreatDoor
