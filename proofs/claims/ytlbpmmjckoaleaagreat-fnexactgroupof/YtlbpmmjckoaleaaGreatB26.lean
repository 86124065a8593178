/- Texts of a proof. -/
import Derived.Test.YtlbpmmjckoaleaaGreatB3
import Derived.Test.YtlbpmmjckoaleaaGreatJo
import Derived.LaidEqlPtr
import Derived.Deep.RegionHeld3
import Derived.Deep.DeepCutAuto
import Derived.Test.YtlbpmmjckoaleaaGreatCsOf
import Derived.Test.YtlbpmmjckoaleaaGreatB6
set_option maxHeartbeats 16000000
set_option maxRecDepth 20000
namespace Go.Proofs.YtlbpmmjckoaleaaGreat
open Go.RowKit
set_option linter.unusedVariables false
set_option linter.unusedSimpArgs false
def hvs (cb : Nat) (l : List Nat) : List Value := l.flatMap fun (j : Nat) => [.int .i64 (j : Int), .pointer (some ⟨cb, 0, none⟩)]
theorem hvs_app (cb : Nat) (l : List Nat) (j : Nat) : hvs cb l ++ [.int .i64 (j : Int), .pointer (some ⟨cb, 0, none⟩)] = hvs cb (l ++ [j]) := by
  unfold hvs; rw [List.flatMap_append]; rfl
theorem hvs_get (cb : Nat) : ∀ (l : List Nat) (q : Nat) (h : q < l.length), (hvs cb l)[q * 2]? = some (.int .i64 (l[q] : Int)) ∧ (hvs cb l)[q * 2 + 1]? = some (.pointer (some ⟨cb, 0, none⟩))
  | [], q, h => absurd h (Nat.not_lt_zero _)
  | x :: xs, 0, _ => ⟨rfl, rfl⟩
  | x :: xs, q + 1, h => by
    have := hvs_get cb xs q (by simpa using h)
    have e : hvs cb (x :: xs) = .int .i64 (x : Int) :: .pointer (some ⟨cb, 0, none⟩) :: hvs cb xs := rfl
    rw [e, show (q + 1) * 2 = q * 2 + 1 + 1 by omega, show q * 2 + 1 + 1 + 1 = (q * 2 + 1) + 1 + 1 by omega]
    exact this
def HL (w : World) (base cb : Nat) (v : Value) (l : List Nat) : Prop := w.ownsRow base 80 2 v l.length (hvs cb l)
theorem HL.nil (w : World) (base cb : Nat) : HL w base cb (.slice none 0 0) [] := World.ownsRow_nil w base _ _
theorem HL.lt {w : World} {base cb : Nat} {v : Value} {l : List Nat} (h : HL w base cb v l) : ∀ b, v.ownBlock = some b → base ≤ b ∧ b < w.heap.size := World.ownsRow.lt h
theorem HL.sm {w w' : World} {B base cb : Nat} {v : Value} {l : List Nat} (h : HL w base cb v l) (hs : Sm B w w') : HL w' base cb v l := by
  refine ⟨h.1, ?_⟩
  rcases h.2 with q | ⟨g, cap, cur, hv, hb, hg, rest⟩
  · exact .inl q
  · exact .inr ⟨g, cap, cur, hv, hb, hs.cells _ _ hg rfl, rest⟩
theorem HL.frame {X : Nat → Prop} {w w' : World} {base cb : Nat} {v : Value} {l : List Nat} (h : HL w base cb v l) (hs : Fr X w w') (hX : ∀ b, v.ownBlock = some b → ¬ X b) : HL w' base cb v l := by
  refine ⟨h.1, ?_⟩
  rcases h.2 with q | ⟨g, cap, cur, hv, hb, hg, rest⟩
  · exact .inl q
  · exact .inr ⟨g, cap, cur, hv, hb, (hs.block _ (Array.getElem?_eq_some_iff.1 hg).1 (hX g (by rw [hv]; rfl))).trans hg, rest⟩
theorem HL.below {w w' : World} {base cb : Nat} {v : Value} {l : List Nat} (h : HL w base cb v l) (hb : Below w.heap.size w w') : HL w' base cb v l := h.frame (X := fun _ => False) (Fr.of_below hb) (fun _ _ h => h)
theorem HL.kx {w w' : World} {B H base cb : Nat} {v : Value} {l : List Nat} (h : HL w base cb v l) (hs : Kx B H w w') (hH : H ≤ base) : HL w' base cb v l := by
  refine ⟨h.1, ?_⟩
  rcases h.2 with q | ⟨g, cap, cur, hv, hb, hg, rest⟩
  · exact .inl q
  · exact .inr ⟨g, cap, cur, hv, hb, hs.cells _ _ hg rfl (by omega), rest⟩
theorem HL.base {w : World} {base B cb : Nat} {v : Value} {l : List Nat} (h : HL w base cb v l) (hB : B ≤ base) : HL w B cb v l := by
  refine ⟨h.1, ?_⟩
  rcases h.2 with q | ⟨g, cap, cur, hv, hb, rest⟩
  · exact .inl q
  · exact .inr ⟨g, cap, cur, hv, by omega, rest⟩
theorem HL.is {w : World} {base cb : Nat} {v : Value} {l : List Nat} (h : HL w base cb v l) : ∃ a c, v = .slice a l.length c := by
  rcases h.2 with ⟨hv, e⟩ | ⟨g, cap, cur, hv, _⟩
  · exact ⟨_, _, by rw [hv, e]⟩
  · exact ⟨_, _, hv⟩
theorem HL.isCells {w : World} {base cb : Nat} {v : Value} {l : List Nat} (h : HL w base cb v l) : ∀ b o, v.ownBlock = some b → w.heap[b]? = some o → o.isCells = true := by
  intro b o hb ho
  rcases h.2 with ⟨hv, _⟩ | ⟨g, cap, cur, hv, _, hg, _⟩
  · subst hv; cases hb
  · subst hv
    simp only [Value.ownBlock, Option.some.injEq] at hb
    subst hb
    rw [hg] at ho; cases ho; rfl
theorem HL.cells {w : World} {base cb g c : Nat} {l : List Nat} (h : HL w base cb (.slice (some ⟨g, 0, none⟩) l.length c) l) {q : Nat} (hq : q < l.length) :
    w.cell? ⟨g, q * 2, none⟩ = some (.int .i64 (l[q] : Int)) ∧ w.cell? ⟨g, q * 2 + 1, none⟩ = some (.pointer (some ⟨cb, 0, none⟩)) := by
  have e0 := World.ownsRow.cellAt h (q * 2) (by omega)
  have e1 := World.ownsRow.cellAt h (q * 2 + 1) (by omega)
  have := hvs_get cb l q hq
  exact ⟨e0.trans this.1, e1.trans this.2⟩
theorem wpList_happ {P : Program} {ops : Array Oper} {rest : List Oper} {o : Oper} {a : Act} {Q : Exit → Act → World → Prop} {w : World} (hgd : o.guard = none) (s x : Operand) (t : TypeId)
    (ho : o.op = .call { callee := .builtin .append, args := #[s, x], argTypes := #[t, t] }) (z : Value)
    (ht : P.underlying t = some (.slice 80)) (hinfo : (P.info? 80).map (fun i => (i.zero, i.size, i.bytes)) = some (some z, 2, 16)) (hzs : z.cells.size = 2)
    (base cb : Nat) (v : Value) (l : List Nat) (hs : a.eval s = v) (h : HL w base cb v l) (b : Nat) (hx : a.eval x = .slice (some ⟨b, 0, none⟩) 1 1) (j : Nat) (h0 : w.cell? ⟨b, 0, none⟩ = some (.int .i64 (j : Int))) (h1 : w.cell? ⟨b, 1, none⟩ = some (.pointer (some ⟨cb, 0, none⟩)))
    (hn : l.length ≤ 1000) (hbase : base ≤ w.heap.size)
    (hK : ∀ g' c' w', HL w' base cb (.slice (some ⟨g', 0, none⟩) (l ++ [j]).length c') (l ++ [j]) → w.grownBy w' v.ownBlock → wpList P ops Q rest (a.put o.dst (.slice (some ⟨g', 0, none⟩) (l ++ [j]).length c')) w') : wpList P ops Q (o :: rest) a w := by
  obtain ⟨i, hi, hzz⟩ := Option.map_eq_some_iff.1 hinfo
  simp only [Prod.mk.injEq] at hzz
  obtain ⟨hz, hsz, hb8⟩ := hzz
  refine wpList_append_lies w hgd s x t ho base 80 i z 2 16 ht hi hz hsz hb8 hzs (by decide) v l.length (hvs cb l) hs h ⟨b, 0, none⟩ 1 1 [.int .i64 (j : Int), .pointer (some ⟨cb, 0, none⟩)] hx rfl ?_ ?_ (by decide) (by unfold maxLen; omega) (by omega) hbase _ rfl ?_
  · intro q u hu
    match q, hu with
    | 0, hu => simp at hu; subst hu; exact h0
    | 1, hu => simp at hu; subst hu; exact h1
    | q + 2, hu => simp at hu
  · intro u hu; simp at hu; rcases hu with rfl | rfl <;> rfl
  · intro g' cap' w' r1 r2 r3 r4
    have e : (l ++ [j]).length = l.length + 1 := by simp
    refine (congrArg (fun m => wpList P ops Q rest (a.put o.dst (.slice (some ⟨g', 0, none⟩) m cap')) w') e).mp (hK g' cap' w' ?_ r2)
    unfold HL
    rw [e, ← hvs_app]
    exact r1
def Bk (B H : Nat) (A A' : World) : Prop := ∀ (k : Nat) (o : Obj), B ≤ k → k < H → A.heap[k]? = some o → o.isCells = true → A'.heap[k]? = some o
theorem Bk.cell {B H : Nat} {A A' : World} (h : Bk B H A A') {p : Addr} {v : Value} (hc : A.cell? p = some v) (h1 : B ≤ p.block) (h2 : p.block < H) : A'.cell? p = some v := by
  obtain ⟨o, ho, hx⟩ := isCells_of_cell hc
  exact (World.cell?_of_block ((h _ _ h1 h2 ho hx).trans ho.symm)).trans hc
theorem Bk.frozen {B H : Nat} {A A' : World} (h : Bk B H A A') {p : Addr} {v : Value} {x : Bool} (hc : A.cell? p = some v) (hf : A.frozen? p = x) (h1 : B ≤ p.block) (h2 : p.block < H) : A'.frozen? p = x := by
  obtain ⟨o, ho, hx⟩ := isCells_of_cell hc
  exact (World.frozen?_of_block ((h _ _ h1 h2 ho hx).trans ho.symm)).trans hf
theorem Bk.sm {B H B' : Nat} {A A' : World} (h : Sm B' A A') : Bk B H A A' := fun k o _ _ hk ho => h.cells k o hk ho
theorem Bk.fr {B H : Nat} {A A' : World} {T : Nat → Prop} (h : Fr T A A') (hT : ∀ b, T b → b < B ∨ H ≤ b) : Bk B H A A' := (Kc.fr h hT).band
theorem Bk.below {B H : Nat} {A A' : World} (h : Below A.heap.size A A') : Bk B H A A' := (Kc.of_below h).band
structure Pb (B H ub g bu bg : Nat) : Prop where
  y : B + 1 < H
  ub1 : B ≤ ub
  ub2 : ub < H
  g1 : B + 1 < g
  g2 : g < H
  bu1 : B ≤ bu
  bu2 : bu < H
  bg1 : B + 1 < bg
  bg2 : bg < H
  n1 : bg ≠ g
  n2 : bg ≠ ub
  n3 : bg ≠ bu
  n4 : bu ≠ g
  n5 : ub ≠ g
structure Pv (A : World) (B cb yl ub g n bu bg : Nat) (L : Nat → Nat) (v : Nat) : Prop where
  c0 : A.cell? ⟨B, 0, none⟩ = some (.pointer (some ⟨cb, 0, none⟩))
  c1 : A.cell? ⟨B + 1, 0, none⟩ = some (.func (.yield yl) #[] #[])
  cu : A.cell? ⟨bu, 0, none⟩ = some (.pointer (some ⟨ub, 0, none⟩))
  cg : A.cell? ⟨bg, 0, none⟩ = some (.int .i64 (v : Int))
  fg : A.frozen? ⟨bg, 0, none⟩ = false
  uf : ∃ G, Uf A ub g n n G ∧ ∀ j, rootF G j = L j
section
variable {A A' : World} {B H cb yl ub g n bu bg : Nat} {L : Nat → Nat} {v : Nat}
theorem Uf.bk {c : Nat} {G : Nat → Nat} (h : Uf A ub g n c G) (hn : 0 < n) (hb : Pb B H ub g bu bg) (k : Bk B H A A') (hs : A.heap.size ≤ A'.heap.size) : Uf A' ub g n c G := by
  have h1 := hb.g1
  refine ⟨k.cell h.hd hb.ub1 hb.ub2, fun i hi => k.cell (h.row i hi) (by show B ≤ g; omega) hb.g2, fun i => ?_, h.le, h.ne, by have := h.l1; omega, by have := h.l2; omega⟩
  obtain ⟨o, ho, hx⟩ := isCells_of_cell (h.row 0 hn)
  exact (World.frozen?_of_block (w := A) ((k g o (by omega) hb.g2 ho hx).trans ho.symm)).trans (h.fz i)
theorem Pv.bk (h : Pv A B cb yl ub g n bu bg L v) (hn : 0 < n) (hb : Pb B H ub g bu bg) (k : Bk B H A A') (hs : A.heap.size ≤ A'.heap.size) : Pv A' B cb yl ub g n bu bg L v := by
  obtain ⟨G, hu, hG⟩ := h.uf
  have := hb.y
  have := hb.bg1
  exact ⟨k.cell h.c0 (Nat.le_refl _) (by show B < H; omega), k.cell h.c1 (by show B ≤ B + 1; omega) hb.y, k.cell h.cu hb.bu1 hb.bu2, k.cell h.cg (by show B ≤ bg; omega) hb.bg2, k.frozen h.cg h.fg (by show B ≤ bg; omega) hb.bg2, G, hu.bk hn hb k hs, hG⟩
theorem Pv.top (h : Pv A B cb yl ub g n bu bg L v) (hb : Pb B H ub g bu bg) (k : Fr (fun b => b = g) A A') {G : Nat → Nat} (hu : Uf A' ub g n n G) (hG : ∀ j, rootF G j = L j) : Pv A' B cb yl ub g n bu bg L v := by
  have h1 := hb.g1
  have l0 : B < A.heap.size := cell_lt (a := ⟨B, 0, none⟩) h.c0
  have l1 : B + 1 < A.heap.size := cell_lt (a := ⟨B + 1, 0, none⟩) h.c1
  have l2 : bu < A.heap.size := cell_lt (a := ⟨bu, 0, none⟩) h.cu
  have l3 : bg < A.heap.size := cell_lt (a := ⟨bg, 0, none⟩) h.cg
  exact ⟨(k.cell (p := ⟨B, 0, none⟩) l0 (by show ¬ B = g; omega)).trans h.c0, (k.cell (p := ⟨B + 1, 0, none⟩) l1 (by show ¬ B + 1 = g; omega)).trans h.c1, (k.cell (p := ⟨bu, 0, none⟩) l2 hb.n4).trans h.cu, (k.cell (p := ⟨bg, 0, none⟩) l3 hb.n1).trans h.cg, (k.frozen (p := ⟨bg, 0, none⟩) l3 hb.n1).trans h.fg, G, hu, hG⟩
theorem Pv.next (h : Pv A B cb yl ub g n bu bg L v) (hb : Pb B H ub g bu bg) (v' : Nat) : Pv (A.setCell ⟨bg, 0, none⟩ (.int .i64 (v' : Int))) B cb yl ub g n bu bg L v' := by
  obtain ⟨G, hu, hG⟩ := h.uf
  have h1 := hb.bg1
  have h2 := hb.n1
  have h3 := hb.n2
  have h4 := hb.n3
  refine ⟨?_, ?_, ?_, ?_, by rw [World.frozen?_setCell]; exact h.fg, G, ⟨?_, fun i hi => ?_, fun i => by rw [World.frozen?_setCell]; exact hu.fz i, hu.le, hu.ne, by simpa using hu.l1, by simpa using hu.l2⟩, hG⟩
  · rw [cset_far (by simp; omega)]; exact h.c0
  · rw [cset_far (by simp; omega)]; exact h.c1
  · rw [cset_far (by simp; omega)]; exact h.cu
  · rw [cset_map, h.cg]; rfl
  · rw [cset_far (by simp; omega)]; exact hu.hd
  · rw [cset_far (by simp; omega)]; exact hu.row i hi
end
end Go.Proofs.YtlbpmmjckoaleaaGreat
namespace Go.Proofs.YtlbpmmjckoaleaaGreat
open Go.RowKit
set_option linter.unusedVariables false
set_option linter.unusedSimpArgs false
theorem run_eq_han (n d : Nat) (hn : n = d + 1) (a x : Int) (cb : Nat) (w : World) : (Op.equalIn (n + 1) 80 (.agg #[.int .i64 a, .pointer (some ⟨cb, 0, none⟩)]) (.agg #[.int .i64 x, .pointer (some ⟨cb, 0, none⟩)])).run Tryz.prog w = .ok (a == x) w := by
  have hi : Tryz.prog.underlying 78 = some (.int .i64) := by kernel_rfl
  have hs : Tryz.prog.stoodInHeld 80 = false := by kernel_rfl
  have hp : ∀ w, (program).run Tryz.prog w = .ok Tryz.prog w := fun w => by rfl
  have p0 : ∀ (a : Int) w, (part 78 #[.int .i64 a, .pointer (some ⟨cb, 0, none⟩)] 0).run Tryz.prog w = .ok (.int .i64 a) w := fun a w => by kernel_rfl
  have p1 : ∀ (a : Int) w, (part 54 #[.int .i64 a, .pointer (some ⟨cb, 0, none⟩)] 1).run Tryz.prog w = .ok (.pointer (some ⟨cb, 0, none⟩)) w := fun a w => by kernel_rfl
  simp only [Op.equalIn, Sem.run_bind, run_underlying Tryz.underlying80, Result.andThen_ok, hp, hs, Bool.false_eq_true, if_false, Sem.run_pure]
  subst hn
  have h0 : ∀ w, (Op.equalIn (d + 1) 78 (.int .i64 a) (.int .i64 x)).run Tryz.prog w = .ok (a == x) w := fun w => run_equalIn_int w d 78 .i64 .i64 a x hi
  have h1 : ∀ w, (Op.equalIn (d + 1) 54 (.pointer (some ⟨cb, 0, none⟩)) (.pointer (some ⟨cb, 0, none⟩))).run Tryz.prog w = .ok true w := fun w => by
    simp only [Op.equalIn, Sem.run_bind, run_underlying Tryz.underlying54, Result.andThen_ok]
    have hz : (sizeOf 85).run Tryz.prog w = .ok 12 w := by kernel_rfl
    simp [Sem.run_bind, hz, run_sameAddr_same]
  simp only [List.forIn_toArray, List.forIn_cons, List.forIn_nil, Sem.run_bind, p0, h0, Result.andThen_ok, Sem.run_ite, Sem.run_pure]
  cases hx : (a == x) <;> simp [Sem.run_bind, p0, p1, h0, h1, Sem.run_ite, hx]
theorem eq_han0 (a x : Int) (cb : Nat) (w : World) : (Op.equalIn 10000 80 (.agg #[.int .i64 a, .pointer (some ⟨cb, 0, none⟩)]) (.agg #[.int .i64 x, .pointer (some ⟨cb, 0, none⟩)])).run Tryz.prog w = .ok (a == x) w := run_eq_han 9999 9998 rfl a x cb w
theorem range0 {P : Program} {g : Operand} {ps : Array Tmp} {assign body : Code} {Q : Exit → Act → World → Prop} {a : Act} {w : World} {gf : Nat} {bound : Array Value}
    (hg : a.eval g = .func (.func gf) bound #[]) (eg : ∀ args w, (callFunc gf args).run P w = .ok (.enter gf args) w)
    {encs : Nat → Array Value} (hit : ItC P gf bound encs 0 w) (hps : ∀ k, (encs k).size = ps.size)
    (hdone : ∀ (D : Nat) (W : World), w.heap.size ≤ D → Sm w.heap.size w W → W.heap[D]? = some (.deferred (some [])) → Q .normal { a with defers := { target := .collected D, args := #[] } :: a.defers } W) :
    (Code.rangeFunc g ps assign body).wp P Q a w :=
  wp_range_out hg eg hit hps (fun _ W => Sm w.heap.size w W) (fun _ _ => False) (fun _ _ _ h s => h.trans s) (fun _ _ _ h _ => h) (Sm.refl _ _) (fun _ _ _ _ _ h => absurd h (Nat.not_lt_zero _)) hdone (fun _ _ _ _ h _ => h.elim)
def E0 (w : World) (cb : Nat) : Prop := ∃ ad cc, w.cell? ⟨cb, 0, none⟩ = some (.slice ad 0 cc)
theorem E0.of {w : World} {cb : Nat} {C : Nat → Nat → Int} {S : Nat → Value} (h : Cs w cb 0 C S) : E0 w cb := by
  obtain ⟨ad, cc, hS0⟩ := (h.own 0 (by omega)).is
  have hd0 := h.hd 0 (by omega)
  rw [hS0] at hd0
  exact ⟨ad, cc, hd0⟩
theorem E0.lt {w : World} {cb : Nat} (h : E0 w cb) : cb < w.heap.size := by obtain ⟨ad, cc, h⟩ := h; exact cell_lt (a := ⟨cb, 0, none⟩) h
theorem E0.on {w w' : World} {cb : Nat} (h : E0 w cb) (k : Below w.heap.size w w') : E0 w' cb := by
  have hl := h.lt
  obtain ⟨ad, cc, h⟩ := h
  exact ⟨ad, cc, (k.cell (p := ⟨cb, 0, none⟩) hl).trans h⟩
theorem E0.sm {w w' : World} {B cb : Nat} (h : E0 w cb) (k : Sm B w w') : E0 w' cb := by obtain ⟨ad, cc, h⟩ := h; exact ⟨ad, cc, k.cell h⟩
theorem each0 {w : World} {cb : Nat} (h : E0 w cb) : ItC Tryz.prog 42 #[.pointer (some ⟨cb, 0, none⟩)] (fun k => #[hdk cb k]) 0 w := by
  have hl := h.lt
  obtain ⟨ad, cc, h⟩ := h
  exact each_it cb 0 cc ad w hl h (by omega)
theorem contacts0 (cb : Nat) (w : World) (hC : E0 w cb) :
    Calls Tryz.prog 76 #[.pointer (some ⟨cb, 0, none⟩)] w fun e w' => e = .returned (.slice none 0 0) ∧ Below w.heap.size w w' := by
  have hset := cset_map
  refine calls_of_wp_marks Tryz.func76 rfl ?_
  simp only [Tryz.ntmps76, List.size_toArray, List.length_cons, List.length_nil, Nat.reduceAdd, Nat.reduceSub, Array.replicate_succ, Array.replicate_zero, List.push_toArray, List.append_toArray, List.nil_append, List.cons_append]
  go_wp2
  have hE : Below w.heap.size w ((w.alloc (Obj.cells #[(.pointer (some ⟨cb, 0, none⟩))] 54)).alloc (Obj.cells #[.slice none 0 0] 41)) := ((Below.refl _ _).alloc (Nat.le_refl _) _).alloc (by simp) _
  have hC2 := hC.on hE
  have r3 : ((w.alloc (Obj.cells #[(.pointer (some ⟨cb, 0, none⟩))] 54)).alloc (Obj.cells #[.slice none 0 0] 41)).cell? ⟨w.heap.size + 1, 0, none⟩ = some (.slice none 0 0) := by go_simp
  generalize ((w.alloc (Obj.cells #[(.pointer (some ⟨cb, 0, none⟩))] 54)).alloc (Obj.cells #[.slice none 0 0] 41)) = w2 at hE hC2 r3 ⊢
  refine range0 (gf := 42) (bound := #[(.pointer (some ⟨cb, 0, none⟩))]) rfl each_enters (each0 hC2) (fun _ => rfl) ?_
  intro D W hD hS hK
  have q3 := hS.cell r3
  go_wp2
  refine marks_ret (B := w2.heap.size) hD rfl hK fun W' hS' => ⟨.slice none 0 0, ?_, rfl, ?_⟩
  · simp [results, Tryz.results76, go_sem, *]
  · exact hE.trans ((hS.trans hS').below.mono hE.size)
theorem unions0 (w : World) : Calls Tryz.prog 75 #[.int .i64 0] w fun e w' => (∃ ub : Nat, e = .returned (.pointer (some ⟨ub, 0, none⟩))) ∧ Below w.heap.size w w' := by
  have hset := cset_map
  have hmk : ∀ w, (Instr.makeSlice 116 (.int .i64 0) (.int .i64 0)).run Tryz.prog w = .ok (.slice (some ⟨w.heap.size, 0, none⟩) 0 0) (w.alloc (.cells #[] 78)) := fun w => by have q := make_rows (P := Tryz.prog) 116 78 (.int .i64 0) 1 8 Tryz.underlying116 (by kernel_rfl) .i64 .i64 0 (by omega) (by omega) w; rw [show madeCells (Value.int .i64 0).cells (0 * 1) = #[] from Array.eq_empty_of_size_eq_zero (by unfold madeCells; simp)] at q; simpa using q
  go_enter Tryz.func75, Tryz.ntmps75
  go_upto_region 3 with fail
  generalize hw2 : ((w.alloc (.cells #[] 78)).alloc (Obj.cells #[.slice (some ⟨w.heap.size, 0, none⟩) 0 0] 118)) = w2
  have hE : Below w.heap.size w w2 := by rw [← hw2]; exact ((Below.refl _ _).alloc (Nat.le_refl _) _).alloc (by simp) _
  clear hw2
  go_loopw [14] (fun s wr => s = .int .i64 0 ∧ wr = w2) (fun _ _ => 0)
  case atStart => exact ⟨rfl, rfl⟩
  case round =>
    obtain ⟨rfl, rfl⟩ := hrel
    go_wp2_with fail
    go_ret
    exact ⟨⟨_, rfl⟩, hE⟩
theorem joined0 (cb : Nat) (w : World) (hC : E0 w cb) : Calls Tryz.prog 47 #[.pointer (some ⟨cb, 0, none⟩)] w fun e w' => (∃ ub : Nat, e = .returned (.pointer (some ⟨ub, 0, none⟩))) ∧ Below w.heap.size w w' := by
  have hset := cset_map
  obtain ⟨ad, cc, hd⟩ := id hC
  go_enter Tryz.func47, Tryz.ntmps47
  go_upto_region 3 with (first
    | (have _ := hb1; go_at_call 76; refine (contacts0 cb _ (hC.on hb1)).mono ?_; rintro e w2 ⟨rfl, hb2⟩)
    | (go_at_call 75; refine (unions0 _).mono ?_; rintro e w1 ⟨⟨ub, rfl⟩, hb1⟩))
  go_loopw [17] (fun s wr => s = .int .i64 0 ∧ wr = w2) (fun _ _ => 0)
  case atStart => exact ⟨rfl, rfl⟩
  case round =>
    obtain ⟨rfl, rfl⟩ := hrel
    go_wp2_with fail
    go_ret
    exact ⟨⟨_, rfl⟩, hb1.trans (hb2.mono hb1.size)⟩
theorem groups0 (cb l : Nat) (w : World) (hC : E0 w cb) : Calls Tryz.prog 31 #[.pointer (some ⟨cb, 0, none⟩), .func (.yield l) #[] #[]] w fun e w' => (∃ v, e = .returned v) ∧ Below w.heap.size w w' := by
  have hset := cset_map
  refine calls_of_wp_marks Tryz.func31 rfl ?_
  simp only [Tryz.ntmps31, List.size_toArray, List.length_cons, List.length_nil, Nat.reduceAdd, Nat.reduceSub, Array.replicate_succ, Array.replicate_zero, List.push_toArray, List.append_toArray, List.nil_append, List.cons_append]
  go_wp2_with (go_at_call 47; refine (joined0 cb _ (hC.on (bel_a))).mono ?_; rintro e w1 ⟨⟨ub, rfl⟩, hb1⟩; have k0 : w1.cell? ⟨w.heap.size, 0, none⟩ = some (.pointer (some ⟨cb, 0, none⟩)) := (hb1.cell (p := ⟨w.heap.size, 0, none⟩) (by simp; omega)).trans (by go_simp); have hz1 := hb1.size; simp only [World.size_alloc] at hz1; have hq0 : w.heap.size < w1.heap.size := (by omega); have hq1 : ¬ w.heap.size = w1.heap.size := (by omega); have hq2 : ¬ w.heap.size = w1.heap.size + 1 := (by omega))
  have hE0 : Below w.heap.size w ((w.alloc (Obj.cells #[.pointer (some ⟨cb, 0, none⟩)] 54)).alloc (Obj.cells #[.func (.yield l) #[] #[]] 88)) := ((Below.refl _ _).alloc (Nat.le_refl _) _).alloc (by simp) _
  have hE1 := hE0.trans (hb1.mono hE0.size)
  have hE2 : Below w1.heap.size w1 ((w1.alloc (Obj.cells #[.pointer (some ⟨ub, 0, none⟩)] 89)).alloc (Obj.cells #[.int .i64 0] 3)) := ((Below.refl _ _).alloc (Nat.le_refl _) _).alloc (by simp) _
  have hE := hE1.trans (hE2.mono hE1.size)
  have hC2 := hC.on hE
  generalize ((w1.alloc (Obj.cells #[.pointer (some ⟨ub, 0, none⟩)] 89)).alloc (Obj.cells #[.int .i64 0] 3)) = w2 at hE hC2 ⊢
  refine range0 (gf := 42) (bound := #[(.pointer (some ⟨cb, 0, none⟩))]) rfl each_enters (each0 hC2) (fun _ => rfl) ?_
  intro D W hD hS hK
  go_wp2
  refine marks_ret (B := w2.heap.size) hD rfl hK fun W' hS' => ⟨_, results_none rfl _ _ _, ⟨_, rfl⟩, ?_⟩
  exact hE.trans ((hS.trans hS').below.mono hE.size)
theorem groups_enters : ∀ args w, (callFunc 31 args).run Tryz.prog w = .ok (.enter 31 args) w := enters_of Tryz.func31 (by kernel_rfl) rfl
end Go.Proofs.YtlbpmmjckoaleaaGreat
