/- Texts of a proof. -/
import Derived.Test.YtmnhankcbkfhaaaGreatDoorB44
import Derived.Test.YtmnhankcbkfhaaaGreatDoorB33
import Derived.Test.YtmnhankcbkfhaaaGreatDoorB45
import Derived.Test.YtmnhankcbkfhaaaGreatDoorB36
import Derived.Deep.RegionHeld3
import Derived.Deep.DeepCutAuto
import Derived.LoopNIn
import Derived.LoopIn
import Derived.OwnWalkIn
set_option maxHeartbeats 16000000
set_option maxRecDepth 20000
namespace Go.Proofs.YtmnhankcbkfhaaaGreatDoor
open Go.RowKit
set_option linter.unusedVariables false
set_option linter.unusedSimpArgs false
structure Va (w A : World) (H lb t : Nat) (v : Value) (m : Nat) (xs : List Value) : Prop where
 bel : Below w.heap.size w A
 box : A.cell? ⟨lb, 3, none⟩ = some v
 nf : A.frozen? ⟨lb, 3, none⟩ = false
 own : A.ownsRow H t 1 v m xs
 lo : w.heap.size ≤ lb
 hi : lb < H
section
variable {w A A' : World} {H lb t m : Nat} {v : Value} {xs : List Value}
theorem Va.lt (h : Va w A H lb t v m xs) : lb < A.heap.size := cell_lt (a := ⟨lb, 3, none⟩) h.box
theorem Va.isCells (h : Va w A H lb t v m xs) : ∀ b o, v.ownBlock = some b → A.heap[b]? = some o → o.isCells = true := by
 intro b o hb ho
 rcases h.own.2 with ⟨hv, _⟩ | ⟨g, cap, cur, hv, _, hg, _⟩
 · subst hv; cases hb
 · subst hv
   simp only [Value.ownBlock, Option.some.injEq] at hb
   subst hb
   rw [hg] at ho; cases ho; rfl
theorem Va.kx {B : Nat} (h : Va w A H lb t v m xs) (k : Kx B H A A') (hB : w.heap.size ≤ B) (hl : lb < B) : Va w A' H lb t v m xs := by
 refine ⟨h.bel.trans (k.below.mono hB), (k.below.cell (p := ⟨lb, 3, none⟩) hl).trans h.box, (k.below.frozen (p := ⟨lb, 3, none⟩) hl).trans h.nf, ⟨h.own.1, ?_⟩, h.lo, h.hi⟩
 rcases h.own.2 with q | ⟨g, cap, cur, hv, hb, hg, rest⟩
 · exact .inl q
 · exact .inr ⟨g, cap, cur, hv, hb, k.cells _ _ hg rfl hb, rest⟩
theorem Va.sm {B : Nat} (h : Va w A H lb t v m xs) (k : Sm B A A') (hB : w.heap.size ≤ B) : Va w A' H lb t v m xs := by
 refine ⟨h.bel.trans (k.below.mono hB), k.cell h.box, k.frozen h.box h.nf, ⟨h.own.1, ?_⟩, h.lo, h.hi⟩
 rcases h.own.2 with q | ⟨g, cap, cur, hv, hb, hg, rest⟩
 · exact .inl q
 · exact .inr ⟨g, cap, cur, hv, hb, k.cells _ _ hg rfl, rest⟩
theorem Va.on (h : Va w A H lb t v m xs) (k : Below A.heap.size A A') : Va w A' H lb t v m xs := by
 refine ⟨h.bel.trans (k.mono h.bel.size), (k.cell (p := ⟨lb, 3, none⟩) h.lt).trans h.box, (k.frozen (p := ⟨lb, 3, none⟩) h.lt).trans h.nf, ⟨h.own.1, ?_⟩, h.lo, h.hi⟩
 rcases h.own.2 with q | ⟨g, cap, cur, hv, hb, hg, rest⟩
 · exact .inl q
 · exact .inr ⟨g, cap, cur, hv, hb, (k.block _ (Array.getElem?_eq_some_iff.1 hg).1).trans hg, rest⟩
theorem Va.push (h : Va w A H lb t v m xs) {Y w7 : World} (hE : Below A.heap.size A Y) (hg : Y.grownBy w7 v.ownBlock) {v' : Value} {m' : Nat} {xs' : List Value} (ho : w7.ownsRow H t 1 v' m' xs') :
 (w7.cell? ⟨lb, 3, none⟩ = some v ∧ w7.frozen? ⟨lb, 3, none⟩ = false) ∧ Va w (w7.setCell ⟨lb, 3, none⟩ v') H lb t v' m' xs' ∧ Fr (fun b => b = lb ∨ H ≤ b) A (w7.setCell ⟨lb, 3, none⟩ v') := by
 have h7 := h.on hE
 have hlo : ∀ b, v.ownBlock = some b → H ≤ b := fun b e => (World.ownsRow.lt h7.own b e).1
 have hF7 : Fr (fun b => v.ownBlock = some b) Y w7 := Fr.grown hg (fun b e => e) h7.isCells
 have hi := h.hi
 have nlb : ¬ (v.ownBlock = some lb) := fun e => by have := hlo _ e; omega
 have c := (hF7.cell (p := ⟨lb, 3, none⟩) h7.lt nlb).trans h7.box
 have f := (hF7.frozen (p := ⟨lb, 3, none⟩) h7.lt nlb).trans h7.nf
 have hF : Fr (fun b => b = lb ∨ H ≤ b) A (w7.setCell ⟨lb, 3, none⟩ v') := ((Fr.of_below hE).trans (hF7.mono (fun _ _ e => .inr (hlo _ e)))).trans (Fr.setCell (p := ⟨lb, 3, none⟩) (.inl rfl) _)
 have hlo' := h.lo
 refine ⟨⟨c, f⟩, ⟨h.bel.trans (hF.below h.bel.size (fun b e => e.elim (fun e => by omega) (fun e => by omega))), ?_, ?_, ⟨ho.1, ?_⟩, h.lo, h.hi⟩, hF⟩
 · rw [cset_map, c]; rfl
 · rw [World.frozen?_setCell]; exact f
 · rcases ho.2 with q | ⟨g, cap, cur, hv, hb, hg, rest⟩
   · exact .inl q
   · exact .inr ⟨g, cap, cur, hv, hb, (Below.heap_setCell w7 ⟨lb, 3, none⟩ v' g (by show ¬ g = lb; omega)).trans hg, rest⟩
end
theorem But.upM {w A A' : World} {lb B : Nat} (h : But lb w A) (K : Below B A A') (hB : w.heap.size ≤ B) : But lb w A' :=
 ⟨K.os.trans h.os, K.tape.trans h.tape, K.output.trans h.output, Nat.le_trans h.size K.size, fun k hk hn => (K.block k (by omega)).trans (h.block k hk hn)⟩
theorem But.frM {w A A' : World} {lb : Nat} {X : Nat → Prop} (h : But lb w A) (K : Fr X A A') (hX : ∀ b, X b → b = lb ∨ w.heap.size ≤ b) : But lb w A' :=
 ⟨K.os.trans h.os, K.tape.trans h.tape, K.output.trans h.output, Nat.le_trans h.size K.size, fun k hk hn => (K.block k (by have := h.size; omega) (fun e => (hX k e).elim hn (fun e => by omega))).trans (h.block k hk hn)⟩
structure Mf (A : World) (mb cb : Nat) (g : Int) (sv : Value) : Prop where
 f0 : A.cell? ⟨mb, 0, none⟩ = some (.pointer (some ⟨cb, 0, none⟩))
 f1 : A.cell? ⟨mb, 1, none⟩ = some (.int .i64 g)
 f2 : A.cell? ⟨mb, 2, none⟩ = some sv
 f4 : A.cell? ⟨mb, 4, none⟩ = some (.pointer none)
 f5 : A.cell? ⟨mb, 5, none⟩ = some (.slice none 0 0)
 g4 : A.frozen? ⟨mb, 4, none⟩ = false
 g5 : A.frozen? ⟨mb, 5, none⟩ = false
theorem Mf.bl {A A' : World} {mb cb B : Nat} {g : Int} {sv : Value} (h : Mf A mb cb g sv) (k : Below B A A') (hB : mb < B) : Mf A' mb cb g sv :=
 ⟨(k.cell (p := ⟨mb, 0, none⟩) hB).trans h.f0, (k.cell (p := ⟨mb, 1, none⟩) hB).trans h.f1, (k.cell (p := ⟨mb, 2, none⟩) hB).trans h.f2, (k.cell (p := ⟨mb, 4, none⟩) hB).trans h.f4, (k.cell (p := ⟨mb, 5, none⟩) hB).trans h.f5, (k.frozen (p := ⟨mb, 4, none⟩) hB).trans h.g4, (k.frozen (p := ⟨mb, 5, none⟩) hB).trans h.g5⟩
theorem Mf.sm {A A' : World} {mb cb B : Nat} {g : Int} {sv : Value} (h : Mf A mb cb g sv) (k : Sm B A A') : Mf A' mb cb g sv :=
 ⟨k.cell h.f0, k.cell h.f1, k.cell h.f2, k.cell h.f4, k.cell h.f5, k.frozen h.f4 h.g4, k.frozen h.f5 h.g5⟩
theorem Mf.fr {A A' : World} {mb cb : Nat} {g : Int} {sv : Value} {X : Nat → Prop} (h : Mf A mb cb g sv) (k : Fr X A A') (hX : ¬ X mb) : Mf A' mb cb g sv :=
 have hl : mb < A.heap.size := cell_lt (a := ⟨mb, 0, none⟩) h.f0
 ⟨(k.cell (p := ⟨mb, 0, none⟩) hl hX).trans h.f0, (k.cell (p := ⟨mb, 1, none⟩) hl hX).trans h.f1, (k.cell (p := ⟨mb, 2, none⟩) hl hX).trans h.f2, (k.cell (p := ⟨mb, 4, none⟩) hl hX).trans h.f4, (k.cell (p := ⟨mb, 5, none⟩) hl hX).trans h.f5, (k.frozen (p := ⟨mb, 4, none⟩) hl hX).trans h.g4, (k.frozen (p := ⟨mb, 5, none⟩) hl hX).trans h.g5⟩
theorem Mf.set {A : World} {mb cb : Nat} {g : Int} {sv v : Value} (h : Mf A mb cb g sv) : Mf (A.setCell ⟨mb, 3, none⟩ v) mb cb g sv := by
 have hset := cset_map
 obtain ⟨f0, f1, f2, f4, f5, g4, g5⟩ := h
 exact ⟨by go_simp, by go_simp, by go_simp, by go_simp, by go_simp, by go_simp, by go_simp⟩
theorem step_pushS {P : Program} {w : World} {ops : Array Oper} {o : Oper} {a : Act} {K : Act → World → Prop} {Q : Exit → Act → World → Prop} {E : Prop} (hgd : o.guard = none) (s x : Operand) (t : TypeId)
 (ho : o.op = .call { callee := .builtin .append, args := #[s, x], argTypes := #[t, t] }) (e bytes : Nat) (z : Value) (ht : P.underlying t = some (.slice e)) (hinfo : (P.info? e).map (fun i => (i.zero, i.size, i.bytes)) = some (some z, 1, bytes)) (hzs : z.cells.size = 1) (hby : bytes ≤ 24)
 (base : Nat) (v : Value) (m : Nat) (xs : List Value) (hs : a.eval s = v) (h : w.ownsRow base e 1 v m xs) (b : Nat) (hx : a.eval x = .slice (some ⟨b, 0, none⟩) 1 1) (u : Value) (hu : w.cell? ⟨b, 0, none⟩ = some u) (h1 : u.oneCell' = true) (hn : m ≤ 1048576) (hbase : base ≤ w.heap.size)
 (hK : ∀ g' c' w', w'.ownsRow base e 1 (.slice (some ⟨g', 0, none⟩) (m + 1) c') (m + 1) (xs ++ [u]) → w.grownBy w' v.ownBlock → K (a.put o.dst (.slice (some ⟨g', 0, none⟩) (m + 1) c')) w') :
 if Region.wanted o (yielded ops a.tmps) = true then Oper.wp P o a w K Q else E := by
 obtain ⟨i, hi, hzz⟩ := Option.map_eq_some_iff.1 hinfo
 simp only [Prod.mk.injEq] at hzz
 obtain ⟨hz, hsz, hb8⟩ := hzz
 refine step_append_lies w hgd s x t ho base e i z 1 bytes ht hi hz hsz hb8 hzs (by decide) v m xs hs h ⟨b, 0, none⟩ 1 1 [u] hx rfl ?_ ?_ (by decide) (by unfold maxLen; omega) ?_ hbase _ rfl ?_
 · intro j v hv
   cases j with
   | zero => simp at hv; subst hv; exact hu
   | succ j => simp at hv
 · intro v hv; simp at hv; rw [hv]; exact h1
 · have : (m + 1) * bytes ≤ (m + 1) * 24 := Nat.mul_le_mul_left _ hby
   omega
 · intro g' cap' w' r1 r2 _ _
   exact hK g' cap' w' r1 r2
theorem infoHs : (Tryz.prog.info? 141).map (fun i => (i.zero, i.size, i.bytes)) = some (some (.slice none 0 0), 1, 24) := by kernel_rfl
theorem memL_filter (L : Nat → Nat) (i : Nat) : ∀ n, memL L i n = (List.range n).filter fun j => decide (L j = i)
 | 0 => rfl
 | n + 1 => by
  rw [memL, memL_filter L i n, List.range_succ, List.filter_append]
  congr 1
  by_cases e : L n = i <;> simp [List.filter, e]
theorem memL_G {fx : Nat → Bool} {L : Nat → Nat} {G : Nat → Int} {n i k : Nat} (hT : Tops fx L) (hG : ∀ j, j < n → G j = gnum fx L j) (hf : fstB fx L i = true) (hk : cntp (fstB fx L) i = k) : memL L i n = memG G n k := by
 rw [memL_filter]
 unfold memG
 apply List.filter_congr
 intro j hj
 rw [List.mem_range] at hj
 have hfi : fx i = false := by
  unfold fstB at hf
  cases h : fx i with
  | false => rfl
  | true => rw [h] at hf; cases hf
 rw [hG j hj]
 refine decide_eq_decide.2 ?_
 unfold gnum
 constructor
 · intro h
   have hx : fx j = false := by rw [← hT.fx, h]; exact hfi
   rw [if_neg (by rw [hx]; simp), h, hk]
 · intro h
   by_cases hx : fx j = true
   · rw [if_pos hx] at h; omega
   · rw [if_neg hx] at h
     exact cntp_inj _ (hT.fst (by simpa using hx)) hf (by omega)
theorem row_ne {w : World} {B1 B2 t1 t2 k1 k2 n1 n2 : Nat} {v1 v2 : Value} {x1 x2 : List Value} (h1 : w.ownsRow B1 t1 k1 v1 n1 x1) (h2 : w.ownsRow B2 t2 k2 v2 n2 x2) (ht : t1 ≠ t2) : ∀ b, v1.ownBlock = some b → ¬ v2.ownBlock = some b := fun b e1 e2 => by
 rcases h1.2 with ⟨q, _⟩ | ⟨g, c, cur, hv, _, hb, _⟩
 · rw [q] at e1; cases e1
 · rcases h2.2 with ⟨q2, _⟩ | ⟨g2, c2, cur2, hv2, _, hb2, _⟩
   · rw [q2] at e2; cases e2
   · rw [hv] at e1
     rw [hv2] at e2
     simp [Value.ownBlock] at e1 e2
     subst e1
     subst e2
     rw [hb] at hb2
     simp at hb2
     exact ht hb2.2
def AwQ (A : World) (H cb : Nat) (G : Nat → Int) (n : Nat) (vs : List Value) (gs : List Nat) : Prop := vs.length = gs.length ∧ ∀ q (h : q < vs.length) (h' : q < gs.length), HL A H cb vs[q] (memG G n gs[q])
theorem AwQ.map {A A' : World} {H cb n : Nat} {G : Nat → Int} {vs : List Value} {gs : List Nat} (h : AwQ A H cb G n vs gs) (k : ∀ vq l, HL A H cb vq l → HL A' H cb vq l) : AwQ A' H cb G n vs gs := ⟨h.1, fun q h1 h2 => k _ _ (h.2 q h1 h2)⟩
theorem AwQ.push {A A' : World} {H cb n t : Nat} {G : Nat → Int} {vs : List Value} {gs : List Nat} {u : Value} (h : AwQ A H cb G n vs gs) (k : ∀ vq l, HL A H cb vq l → HL A' H cb vq l) (hu : HL A' H cb u (memG G n t)) : AwQ A' H cb G n (vs ++ [u]) (gs ++ [t]) := by
 refine ⟨by simp [h.1], fun q h1 h2 => ?_⟩
 rw [List.length_append] at h1 h2
 by_cases e : q < vs.length
 · rw [List.getElem_append_left e, List.getElem_append_left (by rw [← h.1]; exact e)]
   exact k _ _ (h.2 q e (by rw [← h.1]; exact e))
 · simp only [List.length_cons, List.length_nil] at h1 h2
   have e1 : q = vs.length := by omega
   subst e1
   rw [List.getElem_append_right (Nat.le_refl _), List.getElem_append_right (by rw [h.1]; exact Nat.le_refl _)]
   simp only [h.1, Nat.sub_self, List.getElem_cons_zero]
   exact hu
theorem aw_of {A : World} {H B cb n : Nat} {G : Nat → Int} {v : Value} {vs : List Value} {gs : List Nat} (h : A.ownsRow H 141 1 v vs.length vs) (hq : AwQ A H cb G n vs gs) (hB : B ≤ H) : AwL A B cb v G n gs := by
 have hl := hq.1
 rcases h.2 with ⟨q, h0⟩ | ⟨g, c, cur, hv, hb, hg, _⟩
 · refine ⟨none, 0, ?_, fun q h => ?_⟩
   · rw [← hl, h0]; exact q
   · omega
 · have hv' : v = .slice (some ⟨g, 0, none⟩) vs.length c := by first | exact hv | (cases hv; rfl)
   refine ⟨some ⟨g, 0, none⟩, c, by rw [← hl]; exact hv', fun q h1 => ?_⟩
   have hqv : q < vs.length := by omega
   refine ⟨g, 0, vs[q], rfl, by omega, (Array.getElem?_eq_some_iff.1 hg).1, ?_, (hq.2 q hqv h1).base hB⟩
   have := World.ownsRow.cells (hv' ▸ h) (g := g) rfl q vs[q] (List.getElem?_eq_getElem hqv)
   rw [Addr.add_lit] at this
   exact this
end Go.Proofs.YtmnhankcbkfhaaaGreatDoor
namespace Go.Proofs.YtmnhankcbkfhaaaGreatDoor
open Go.RowKit
set_option linter.unusedVariables false
set_option linter.unusedSimpArgs false
section
attribute [local go_sem] Oper.semAt_some
theorem motionOf_any (cb n : Nat) (g : Int) (U : Nat → Int) (S : Nat → Value) (w : World) (hC : Cs w cb n (colOf U) S) (hbb : Bods n U) :
 Calls Tryz.prog 57 #[.pointer (some ⟨cb, 0, none⟩), .int .i64 g] w fun e w' => ∃ mb aM cM v, e = .returned (.pointer (some ⟨mb, 0, none⟩)) ∧ w.heap.size ≤ mb ∧ Below w.heap.size w w' ∧ Mf w' mb cb g (.slice aM (ctM n U) cM) ∧ Flat w' aM (ctM n U * 5) (ctC n U) ∧ (∀ b o, aM = some ⟨b, o, none⟩ → 0 < ctM n U * 5 → w.heap.size ≤ b ∧ b < mb) ∧ w'.cell? ⟨mb, 3, none⟩ = some v ∧ w'.frozen? ⟨mb, 3, none⟩ = false ∧ AwL w' (mb + 1) cb v (gpG n U) n ((List.range (awN n U)).filter (awA n U)) := by
 have hset := cset_map
 have hn := hbb.le
 have hn20 : n ≤ 1048576 := by omega
 obtain ⟨ct, hM5⟩ := ct_ok n U
 have hMk : ctM n U ≤ 144 := by
  obtain ⟨m, e, hm⟩ := conOut_len (colOf U) n n
  have e' : (conL (colOf U) n).length = m * 5 := e
  have := Nat.mul_le_mul hn hn
  omega
 obtain ⟨M, hMe⟩ : ∃ x, ctM n U = x := ⟨_, rfl⟩
 rw [hMe] at ct hM5 hMk ⊢
 obtain ⟨L, hL⟩ : ∃ L, lab (edg U (ofL (conL (colOf U) n))) M = L := ⟨_, rfl⟩
 have hT : Tops (fxU U) L := hL ▸ lab_tops U _ M
 have hG : ∀ j, j < n → gpG n U j = gnum (fxU U) L j := fun j hj => by
  unfold gpG
  rw [hMe]
  exact (grpL_eq ct j hj).trans (by rw [← hL]; rfl)
 have hA := awL_eq hT hG n (Nat.le_refl _)
 have hN : awN n U = cntp (fstB (fxU U) L) n := hA.1
 have hAw : ∀ t, t < awN n U → awA n U t = awk (fxU U) L (slG U) n t := fun t ht => hA.2 t (hN ▸ ht)
 have hGr : ∀ w1, Cs w1 cb n (colOf U) S → ItG Tryz.prog 78 #[.pointer (some ⟨cb, 0, none⟩)] (ColF cb n (fxU U)) (GrE cb n (fxU U) L) (cntp (fstB (fxU U) L) n) w1 := fun w1 hC => groups_any cb n U S M w1 hC hn hM5 (by omega) L (fun j => by rw [← hL]) (fxU U)
 have hsl : ∀ j, j < n → decide (colOf U 11 j = 8) = slG U j := fun j hj => by
  have : 0 ≤ U (j * 12 + 11) ∧ U (j * 12 + 11) ≤ 8 := (BOk.of (hbb.ok j hj)).q11
  unfold colOf slG
  exact decide_eq_decide.2 ⟨fun h => by omega, fun h => by omega⟩
 obtain ⟨sl, hsle⟩ : ∃ s, slG U = s := ⟨_, rfl⟩
 rw [hsle] at hsl hAw
 obtain ⟨GG, hGG⟩ : ∃ x, gpG n U = x := ⟨_, rfl⟩
 obtain ⟨AA, hAA⟩ : ∃ x, awA n U = x := ⟨_, rfl⟩
 obtain ⟨NN, hNN⟩ : ∃ x, awN n U = x := ⟨_, rfl⟩
 obtain ⟨CC, hCC⟩ : ∃ x, ctC n U = x := ⟨_, rfl⟩
 have hCO : ofL (conL (colOf U) n) = CC := hCC
 rw [hGG] at hG ⊢
 rw [hAA] at hAw ⊢
 rw [hNN] at hAw hN ⊢
 rw [hCC]
 clear hA hL hMe hsle hGG hAA hNN ct
 refine calls_of_wp_marks Tryz.func57 rfl ?_
 simp only [Tryz.ntmps57, List.size_toArray, List.length_cons, List.length_nil, Nat.reduceAdd, Nat.reduceSub, Array.replicate_succ, Array.replicate_zero, List.push_toArray, List.append_toArray, List.nil_append, List.cons_append]
 go_wp2_with (go_at_call 77; refine (contacts_any cb n (colOf U) S _ hC hn).mono ?_; rintro e w1 ⟨aM, Mq, cM, rfl, hMq, hO1⟩; obtain rfl : Mq = M := (by omega); rw [hCO] at hO1)
 have hE1 : Below w1.heap.size w1 (w1.alloc (Obj.cells #[.pointer (some ⟨cb, 0, none⟩), .int .i64 g, .slice aM Mq cM, .slice none 0 0, .pointer none, .slice none 0 0] 139)) := (Below.refl _ _).alloc (Nat.le_refl _) _
 have hE2 : Below w1.heap.size w1 ((w1.alloc (Obj.cells #[.pointer (some ⟨cb, 0, none⟩), .int .i64 g, .slice aM Mq cM, .slice none 0 0, .pointer none, .slice none 0 0] 139)).alloc (Obj.cells #[.pointer (some ⟨w1.heap.size, 0, none⟩)] 97)) := (((Below.refl _ _).alloc (Nat.le_refl _) _).alloc (by simp) _)
 have hMf : Mf ((w1.alloc (Obj.cells #[.pointer (some ⟨cb, 0, none⟩), .int .i64 g, .slice aM Mq cM, .slice none 0 0, .pointer none, .slice none 0 0] 139)).alloc (Obj.cells #[.pointer (some ⟨w1.heap.size, 0, none⟩)] 97)) w1.heap.size cb g (.slice aM Mq cM) := ⟨by go_simp, by go_simp, by go_simp, by go_simp, by go_simp, by go_simp, by go_simp⟩
 have x3 : ((w1.alloc (Obj.cells #[.pointer (some ⟨cb, 0, none⟩), .int .i64 g, .slice aM Mq cM, .slice none 0 0, .pointer none, .slice none 0 0] 139)).alloc (Obj.cells #[.pointer (some ⟨w1.heap.size, 0, none⟩)] 97)).cell? ⟨w1.heap.size, 3, none⟩ = some (.slice none 0 0) := by go_simp
 have g3 : ((w1.alloc (Obj.cells #[.pointer (some ⟨cb, 0, none⟩), .int .i64 g, .slice aM Mq cM, .slice none 0 0, .pointer none, .slice none 0 0] 139)).alloc (Obj.cells #[.pointer (some ⟨w1.heap.size, 0, none⟩)] 97)).frozen? ⟨w1.heap.size, 3, none⟩ = false := by go_simp
 have xv : ((w1.alloc (Obj.cells #[.pointer (some ⟨cb, 0, none⟩), .int .i64 g, .slice aM Mq cM, .slice none 0 0, .pointer none, .slice none 0 0] 139)).alloc (Obj.cells #[.pointer (some ⟨w1.heap.size, 0, none⟩)] 97)).cell? ⟨w1.heap.size + 1, 0, none⟩ = some (.pointer (some ⟨w1.heap.size, 0, none⟩)) := by go_simp
 have hz2 : ((w1.alloc (Obj.cells #[.pointer (some ⟨cb, 0, none⟩), .int .i64 g, .slice aM Mq cM, .slice none 0 0, .pointer none, .slice none 0 0] 139)).alloc (Obj.cells #[.pointer (some ⟨w1.heap.size, 0, none⟩)] 97)).heap.size = w1.heap.size + 1 + 1 := by simp
 have hb1 : Below w.heap.size w w1 := hO1.bel
 have hz1 := hb1.size
 have hF1 : Flat w1 aM (Mq * 5) CC := hO1.own.flat
 have hl1 : ∀ b, (Value.slice aM Mq cM).ownBlock = some b → w.heap.size ≤ b ∧ b < w1.heap.size := fun b e => hO1.own.lt b e
 have hFa : ∀ b o, aM = some ⟨b, o, none⟩ → 0 < Mq * 5 → w.heap.size ≤ b ∧ b < w1.heap.size := fun b o e h0 => by
  subst e
  rcases hO1.own.2 with ⟨q, _⟩ | ⟨g0, c0, cur, hv, hb0, hg0, _⟩
  · cases q
  · cases hv
    exact ⟨hb0, (Array.getElem?_eq_some_iff.1 hg0).1⟩
 have hF2 := hF1.below hE2
 have hB2 : Below w.heap.size w ((w1.alloc (Obj.cells #[.pointer (some ⟨cb, 0, none⟩), .int .i64 g, .slice aM Mq cM, .slice none 0 0, .pointer none, .slice none 0 0] 139)).alloc (Obj.cells #[.pointer (some ⟨w1.heap.size, 0, none⟩)] 97)) := hb1.trans (hE2.mono hz1)
 clear hE1 hO1 hl1 hM5 hMq
 generalize ((w1.alloc (Obj.cells #[.pointer (some ⟨cb, 0, none⟩), .int .i64 g, .slice aM Mq cM, .slice none 0 0, .pointer none, .slice none 0 0] 139)).alloc (Obj.cells #[.pointer (some ⟨w1.heap.size, 0, none⟩)] 97)) = w2 at hE2 hMf x3 g3 xv hz2 hF2 hB2 ⊢
 have hG2 := hGr w2 (hC.below hB2)
 obtain ⟨vb, hvb⟩ : ∃ x, w1.heap.size + 1 = x := ⟨_, rfl⟩
 rw [hvb] at xv ⊢
 obtain ⟨mb, hmb⟩ : ∃ x, w1.heap.size = x := ⟨_, rfl⟩
 rw [hmb] at hMf x3 g3 xv hvb hz2 hz1 hFa ⊢
 have hm2 : mb < w2.heap.size := by omega
 have hv2 : vb < w2.heap.size := by omega
 have hvm : ¬ vb = mb := by omega
 clear hmb hGr hF1
 refine wp_range_outG (gf := 78) (bound := #[.pointer (some ⟨cb, 0, none⟩)]) rfl groups_enters hG2 (fun H k args A hE => by obtain ⟨i, v, _, _, _, rfl, _⟩ := hE; rfl)
  (fun H k A => w2.heap.size ≤ H ∧ But mb w2 A ∧ Mf A mb cb g (.slice aM Mq cM) ∧ ∃ v vs, Va w A H mb 141 v vs.length vs ∧ AwQ A H cb GG n vs ((List.range k).filter AA)) ?hI ?hIs ?hcol ?h0 ?round ?done
 case hI => rintro H k A B' ⟨h0, h1, h2, v, vs, h3, h4⟩ hk; exact ⟨h0, h1.upM hk.below (by omega), h2.bl hk.below (by omega), v, vs, h3.kx hk (by omega) (by omega), h4.map fun vq l h => h.kx hk (Nat.le_refl _)⟩
 case hIs => rintro H k A B' ⟨h0, h1, h2, v, vs, h3, h4⟩ hs; exact ⟨h0, h1.upM hs.below (Nat.le_refl _), h2.sm hs, v, vs, h3.sm hs (by omega), h4.map fun vq l h => h.sm hs⟩
 case hcol => rintro H k A ⟨_, _, _, v, vs, h3, _⟩; exact ⟨_, _, hC.below h3.bel, fun j _ => rfl⟩
 case h0 =>
  intro W0 hb hz
  exact ⟨by omega, But.of_below hb, hMf.bl hb hm2, .slice none 0 0, [], ⟨hB2.trans (hb.mono hB2.size), (hb.cell (p := ⟨mb, 3, none⟩) hm2).trans x3, (hb.frozen (p := ⟨mb, 3, none⟩) hm2).trans g3, World.ownsRow_nil _ _ _ _, by omega, by omega⟩, rfl, fun q h => absurd h (Nat.not_lt_zero _)⟩
 case done =>
  rintro D H W hD ⟨h0, h1, h2, v, vs, h3, h4⟩ hK
  have hvW := (h1.cell (p := ⟨vb, 0, none⟩) hv2 hvm).trans xv
  go_wp2
  refine marks_ret (B := w2.heap.size) hD rfl hK fun W' hS => ⟨.pointer (some ⟨mb, 0, none⟩), ?_, mb, aM, cM, v, rfl, by omega, (h3.sm hS (by have := hB2.size; omega)).bel, h2.sm hS, ?_, hFa, hS.cell h3.box, hS.frozen h3.box h3.nf, ?_⟩
  · simp [results, Tryz.results57, go_sem, *]
  · intro h0'
    obtain ⟨b, o, e, hbl, hc⟩ := hF2 h0'
    have := (hFa b o e h0').2
    exact ⟨b, o, e, Nat.lt_of_lt_of_le hbl (Nat.le_trans h1.size hS.size), fun j hj => hS.cell ((h1.cell (p := ⟨b, o + j, none⟩) hbl (by show ¬ b = mb; omega)).trans (hc j hj))⟩
  · rw [← hN] at h4
    have h5 := h4.map (A' := W') fun vq l h => h.sm hS
    have h6 := h3.sm hS (by have := hB2.size; omega)
    refine aw_of h6.own h5 (by omega)
 case round =>
  rintro lr H k W args hlr1 hlr2 hWz ⟨hHz, hBt1, hM1, v, vs, hV1, hQ1⟩ hkk ⟨i, vv, hi, hfi, hck, rfl, hHL⟩
  have hkN : k < NN := by omega
  have hNn : NN ≤ n := hN ▸ cntp_le (fstB (fxU U) L) n
  have hmem : memL L i n = memG GG n k := memL_G hT hG hfi hck
  have hany : (memL L i n).any (fun j => !sl j) = AA k := (memL_awk hT sl n hfi hck).trans (hAw k hkN).symm
  have hLi : L i = i := by unfold fstB at hfi; exact of_decide_eq_true (by simp at hfi; exact decide_eq_true hfi.2)
  have hm0 : 0 < (memL L i n).length := List.length_pos_of_mem ((memL_mem L i n i).2 ⟨hi, hLi⟩)
  have hmm := memL_mem L i n
  have hml := memL_le L i n
  clear hG2 x3 g3 hF2 hMf hkk hN
  obtain ⟨bk, hbk⟩ : ∃ b, AA k = b := ⟨_, rfl⟩
  rw [hbk] at hany
  have hnext0 : (List.range (k + 1)).filter AA = (List.range k).filter AA ++ (if bk = true then [k] else []) := by
   rw [List.range_succ, List.filter_append, ← hbk]
   congr 1
   cases h : AA k <;> simp [List.filter, h]
  have hms : Shut (memL L i n = memG GG n k) := hmem
  clear hmem
  generalize memL L i n = ms at hmm hml hm0 hany hms hHL ⊢
  have hvl : vs.length ≤ 1048576 := by
   rw [hQ1.1]
   have := List.length_filter_le AA (List.range k)
   rw [List.length_range] at this
   omega
  obtain ⟨mg, mc, rfl, hmg, hmg2⟩ := hHL.some hm0
  simp only [List.zip_toArray, List.zip_cons_cons, List.zip_nil_left, List.foldl_toArray, List.foldl_cons, List.foldl_nil, List.setIfInBounds_toArray, List.set_cons_succ, List.set_cons_zero]
  refine wpIn_region_plain (by rintro ⟨_, _, h⟩; exact h) (by kernel_rfl) ?_
  go_wp2
  refine ⟨KeepsFrom.refl _ _, fun W2 hS hKc hr => ?_⟩
  have hV2 := hV1.sm hS (by have := hB2.size; omega)
  have hHL2 := hHL.sm hS
  have hBt2 := hBt1.upM hS.below (Nat.le_refl _)
  have hM2 := hM1.sm hS
  have hQ2 : AwQ W2 H cb GG n vs ((List.range k).filter AA) := hQ1.map fun vq l h => h.sm hS
  have hKc2 : Kc (w2.heap.size + 2) H W W2 := hKc _ _ hlr2
  have hz2' := hS.size
  clear hV1 hHL hKc hS hr hBt1 hM1 hQ1
  refine wpIn_block ?_
  gi_upto_region 4 with fail
  gi_cut [19] from 20 (fun s19 wc => s19 = .bool bk ∧ Below W2.heap.size W2 wc)
  case first =>
   refine wpIn_region_plain (by rintro ⟨_, _, h⟩; exact h) (by kernel_rfl) ?_
   go_wp2_with (go_at_call 79; refine (oneAwake_any _ (hC.below hV2.bel) hHL2 (fun j hj => ((hmm j).1 hj).1) hn (by omega) hsl bk hany).mono ?_; rintro e w31 ⟨rfl, hx⟩)
   gi_meet
   exact ⟨rfl, hx⟩
  case rest =>
  obtain ⟨rfl, hb5⟩ := hcut
  obtain ⟨w5, rfl⟩ : ∃ x, x = wc := ⟨_, rfl⟩
  have hV5 := hV2.on hb5
  have hHL5 := hHL2.below hb5
  have hBt5 := hBt2.upM hb5 hBt2.size
  have hm5 : mb < w5.heap.size := hV5.lt
  have hM5 := hM2.bl hb5 hV2.lt
  have hQ5 : AwQ w5 H cb GG n vs ((List.range k).filter AA) := hQ2.map fun vq l h => h.below hb5
  have hKc5 : Kc (w2.heap.size + 2) H W w5 := hKc2.trans (Kc.of_below hb5)
  have hvb5 := (hBt5.cell (p := ⟨vb, 0, none⟩) hv2 hvm).trans xv
  have hHw5 : H ≤ w5.heap.size := by have := hb5.size; omega
  have x5 := hV5.box
  clear hV2 hHL2 hBt2 hM2 hQ2 hKc2
  cases bk with
  | true =>
   have hnext : Shut ((List.range (k + 1)).filter AA = (List.range k).filter AA ++ [k]) := by unfold Shut; rw [hnext0]; rfl
   clear hnext0 hany
   gi_upto_region 5 with fail
   refine wpIn_region_held_drew (S := fun w' => w'.cell? ⟨vb, 0, none⟩ = some (.pointer (some ⟨mb, 0, none⟩))) (by kernel_rfl) (by rintro ⟨_, _, h⟩; exact h) (by kernel_rfl) ?_ (fun hHeld => ?_)
   · exact hvb5
   refine tq 0 hHeld ?_
   refine tq 1 hHeld ?_
   refine tq 2 hHeld ?_
   refine tq 3 hHeld ?_
   refine tq 5 hHeld ?_
   refine wpAnyH_ready (rs := [4, 6]) (by kernel_rfl) (by simp) ?_
   refine AllReadyH.cons rfl (fun K hK => ?_) (AllReadyH.cons rfl (fun K hK => ?_) AllReadyH.nil)
   · (go_simp
      refine tr hK (fun hHeld => ?_) (by first | exact hHeld | assumption)
      clear hK K)
     refine tc 6 fun K hK => ?_
     (go_simp
      have hE3 : Below w5.heap.size w5 (w5.alloc (Obj.cells #[.slice (some ⟨mg, 0, none⟩) ms.length mc] 141)).drew := Below.drew ((Below.refl _ _).alloc (Nat.le_refl _) _)
      have q0 : (w5.alloc (Obj.cells #[.slice (some ⟨mg, 0, none⟩) ms.length mc] 141)).drew.cell? ⟨w5.heap.size, 0, none⟩ = some (.slice (some ⟨mg, 0, none⟩) ms.length mc) := by go_simp
      generalize (w5.alloc (Obj.cells #[.slice (some ⟨mg, 0, none⟩) ms.length mc] 141)).drew = w6 at hE3 q0 ⊢
      have hV6 := hV5.on hE3
      have x6 := hV6.box
      have hv6 := keepL hE3 hvb5
      refine tr hK (fun hHeld => ?_) hv6
      clear hK K)
     refine tc 7 fun K hK => ?_
     (refine step_pushS (by rfl) _ _ _ (by rfl) 141 24 (.slice none 0 0) Tryz.underlying136 infoHs rfl (by decide) H v vs.length vs (by rfl) hV6.own w5.heap.size (by rfl) (.slice (some ⟨mg, 0, none⟩) ms.length mc) q0 rfl (by omega) (by have := hE3.size; omega) ?_
      intro g7 c7 w7 ho7 hg7
      obtain ⟨⟨n0, nf⟩, hV7, hF7⟩ := hV5.push hE3 hg7 ho7
      have hb7 : mb < w7.heap.size := cell_lt (a := ⟨mb, 3, none⟩) n0
      have hFs := Fr.grown hg7 (X := fun b => v.ownBlock = some b) (fun b e => e) hV6.isCells
      have hv7 := (hFs.cell (p := ⟨vb, 0, none⟩) (cell_lt (a := ⟨vb, 0, none⟩) hv6) (fun e => by have e : v.ownBlock = some vb := e; have := (World.ownsRow.lt hV6.own vb e).1; omega)).trans hv6
      have hM7 := (hM5.bl hE3 hm5).fr hFs (fun e => by have e : v.ownBlock = some mb := e; have := (World.ownsRow.lt hV6.own mb e).1; omega)
      refine tr hK (fun hHeld => ?_) hv7
      clear hK K)
     refine tq 8 hHeld ?_
     refine tq 9 hHeld ?_
     refine tc 10 fun K hK => ?_
     (go_simp
      refine tr hK (fun hHeld => ?_) (by have := (Fr.setCell (X := fun b => b = mb) (w := w7) (p := ⟨mb, 3, none⟩) rfl (.slice (some ⟨g7, 0, none⟩) (vs.length + 1) c7)).cell (p := ⟨vb, 0, none⟩) (cell_lt (a := ⟨vb, 0, none⟩) hv7) (by show ¬ vb = mb; omega); exact this.trans hv7)
      clear hK K)
     refine wpAnyH_done (by kernel_rfl) ?_ _
     go_wp2_with fail
     have hF57 : Fr (fun b => b = mb ∨ H ≤ b) w5 (w7.setCell ⟨mb, 3, none⟩ (.slice (some ⟨g7, 0, none⟩) (vs.length + 1) c7)) := hF7
     have hfr : ∀ (vq : Value) (l : List Nat), HL w5 H cb vq l → HL (w7.setCell ⟨mb, 3, none⟩ (.slice (some ⟨g7, 0, none⟩) (vs.length + 1) c7)) H cb vq l := fun vq l h =>
      ((h.below hE3).frame hFs (fun b e => row_ne h hV5.own (by decide) b e)).frame (X := fun b => b = mb) (Fr.setCell (X := fun b => b = mb) (p := ⟨mb, 3, none⟩) rfl _) (fun b e q => by have := (h.lt b e).1; have q : b = mb := q; omega)
     exact ⟨(KeepsFrom.of_below hb5).trans (hF57.keeps _), ⟨hHz, hBt5.frM hF57 (fun b e => e.elim .inl (fun e => .inr (by omega))), hM7.set, _, vs ++ [.slice (some ⟨mg, 0, none⟩) ms.length mc], by rw [show (vs ++ [Value.slice (some ⟨mg, 0, none⟩) ms.length mc]).length = vs.length + 1 by simp]; exact hV7, by rw [hnext.out]; exact hQ5.push hfr (by rw [← hms.out]; exact hfr _ _ hHL5)⟩, hKc5.trans (Kc.fr hF57 (fun b e => e.elim (fun e => .inl (by omega)) (fun e => .inr e)))⟩
   · (go_simp
      have hE3 : Below w5.heap.size w5 (w5.alloc (Obj.cells #[.slice (some ⟨mg, 0, none⟩) ms.length mc] 141)).drew := Below.drew ((Below.refl _ _).alloc (Nat.le_refl _) _)
      have q0 : (w5.alloc (Obj.cells #[.slice (some ⟨mg, 0, none⟩) ms.length mc] 141)).drew.cell? ⟨w5.heap.size, 0, none⟩ = some (.slice (some ⟨mg, 0, none⟩) ms.length mc) := by go_simp
      generalize (w5.alloc (Obj.cells #[.slice (some ⟨mg, 0, none⟩) ms.length mc] 141)).drew = w6 at hE3 q0 ⊢
      have hV6 := hV5.on hE3
      have x6 := hV6.box
      have hv6 := keepL hE3 hvb5
      refine tr hK (fun hHeld => ?_) hv6
      clear hK K)
     refine tc 4 fun K hK => ?_
     (go_simp
      refine tr hK (fun hHeld => ?_) (by first | exact hHeld | assumption)
      clear hK K)
     refine tc 7 fun K hK => ?_
     (refine step_pushS (by rfl) _ _ _ (by rfl) 141 24 (.slice none 0 0) Tryz.underlying136 infoHs rfl (by decide) H v vs.length vs (by rfl) hV6.own w5.heap.size (by rfl) (.slice (some ⟨mg, 0, none⟩) ms.length mc) q0 rfl (by omega) (by have := hE3.size; omega) ?_
      intro g7 c7 w7 ho7 hg7
      obtain ⟨⟨n0, nf⟩, hV7, hF7⟩ := hV5.push hE3 hg7 ho7
      have hb7 : mb < w7.heap.size := cell_lt (a := ⟨mb, 3, none⟩) n0
      have hFs := Fr.grown hg7 (X := fun b => v.ownBlock = some b) (fun b e => e) hV6.isCells
      have hv7 := (hFs.cell (p := ⟨vb, 0, none⟩) (cell_lt (a := ⟨vb, 0, none⟩) hv6) (fun e => by have e : v.ownBlock = some vb := e; have := (World.ownsRow.lt hV6.own vb e).1; omega)).trans hv6
      have hM7 := (hM5.bl hE3 hm5).fr hFs (fun e => by have e : v.ownBlock = some mb := e; have := (World.ownsRow.lt hV6.own mb e).1; omega)
      refine tr hK (fun hHeld => ?_) hv7
      clear hK K)
     refine tq 8 hHeld ?_
     refine tq 9 hHeld ?_
     refine tc 10 fun K hK => ?_
     (go_simp
      refine tr hK (fun hHeld => ?_) (by have := (Fr.setCell (X := fun b => b = mb) (w := w7) (p := ⟨mb, 3, none⟩) rfl (.slice (some ⟨g7, 0, none⟩) (vs.length + 1) c7)).cell (p := ⟨vb, 0, none⟩) (cell_lt (a := ⟨vb, 0, none⟩) hv7) (by show ¬ vb = mb; omega); exact this.trans hv7)
      clear hK K)
     refine wpAnyH_done (by kernel_rfl) ?_ _
     go_wp2_with fail
     have hF57 : Fr (fun b => b = mb ∨ H ≤ b) w5 (w7.setCell ⟨mb, 3, none⟩ (.slice (some ⟨g7, 0, none⟩) (vs.length + 1) c7)) := hF7
     have hfr : ∀ (vq : Value) (l : List Nat), HL w5 H cb vq l → HL (w7.setCell ⟨mb, 3, none⟩ (.slice (some ⟨g7, 0, none⟩) (vs.length + 1) c7)) H cb vq l := fun vq l h =>
      ((h.below hE3).frame hFs (fun b e => row_ne h hV5.own (by decide) b e)).frame (X := fun b => b = mb) (Fr.setCell (X := fun b => b = mb) (p := ⟨mb, 3, none⟩) rfl _) (fun b e q => by have := (h.lt b e).1; have q : b = mb := q; omega)
     exact ⟨(KeepsFrom.of_below hb5).trans (hF57.keeps _), ⟨hHz, hBt5.frM hF57 (fun b e => e.elim .inl (fun e => .inr (by omega))), hM7.set, _, vs ++ [.slice (some ⟨mg, 0, none⟩) ms.length mc], by rw [show (vs ++ [Value.slice (some ⟨mg, 0, none⟩) ms.length mc]).length = vs.length + 1 by simp]; exact hV7, by rw [hnext.out]; exact hQ5.push hfr (by rw [← hms.out]; exact hfr _ _ hHL5)⟩, hKc5.trans (Kc.fr hF57 (fun b e => e.elim (fun e => .inl (by omega)) (fun e => .inr e)))⟩
  | false =>
   have hnext : Shut ((List.range (k + 1)).filter AA = (List.range k).filter AA) := by unfold Shut; rw [hnext0]; simp
   clear hnext0 hany
   gi_wp2
   exact ⟨KeepsFrom.of_below hb5, ⟨hHz, hBt5, hM5, v, vs, hV5, by rw [hnext.out]; exact hQ5⟩, hKc5⟩
end
end Go.Proofs.YtmnhankcbkfhaaaGreatDoor
