/- Texts of a proof. -/
import Derived.Test.YtalkkjhehndaoaaGreatB11
import Derived.Test.YtalkkjhehndaoaaGreatB1
import Derived.Deep.RegionHeld3
import Derived.Deep.DeepCutAuto
import Derived.Test.YtalkkjhehndaoaaGreatB4
import Derived.Deep.AppendLies
import Derived.Laws.OwnMore
import Derived.Test.YtalkkjhehndaoaaGreatB8
set_option maxHeartbeats 16000000
set_option maxRecDepth 20000
namespace Go.Proofs.YtalkkjhehndaoaaGreat
open Go.RowKit
set_option linter.unusedVariables false
set_option linter.unusedSimpArgs false
def memL (L : Nat → Nat) (i : Nat) : Nat → List Nat
 | 0 => []
 | k + 1 => memL L i k ++ (if L k = i then [k] else [])
theorem memL_le (L : Nat → Nat) (i : Nat) : ∀ k, (memL L i k).length ≤ k
 | 0 => Nat.le_refl _
 | k + 1 => by
  have := memL_le L i k
  rw [memL, List.length_append]
  split <;> simp <;> omega
def fstB (fx : Nat → Bool) (L : Nat → Nat) (i : Nat) : Bool := !fx i && decide (L i = i)
def ColF (cb n : Nat) (fx : Nat → Bool) (A : World) : Prop := ∃ C S, Cs A cb n C S ∧ ∀ j, j < n → decide (C 8 j = 0) = fx j
def GrE (cb n : Nat) (fx : Nat → Bool) (L : Nat → Nat) (H k : Nat) (args : Array Value) (A : World) : Prop :=
 ∃ i v, i < n ∧ fstB fx L i = true ∧ cntp (fstB fx L) i = k ∧ args = #[.int .i64 (k : Int), v] ∧ HL A H cb v (memL L i n)
structure Mb (X : World) (mb cb : Nat) (v : Value) (l : List Nat) : Prop where
 box : X.cell? ⟨mb, 0, none⟩ = some v
 nf : X.frozen? ⟨mb, 0, none⟩ = false
 own : HL X (mb + 1) cb v l
section
variable {A X Y : World} {B H cb yl ub g n bu bg ba mb i cv : Nat} {L : Nat → Nat} {v : Value} {l : List Nat}
structure Q2 (A X : World) (B H cb yl ub g n bu bg ba mb i cv : Nat) (L : Nat → Nat) (v : Value) (l : List Nat) : Prop where
 p : Pv X B cb yl ub g n bu bg L cv
 m : Mb X mb cb v l
 f0 : X.cell? ⟨ba, 0, none⟩ = some (.int .i64 (i : Int))
 f1 : X.cell? ⟨ba, 1, none⟩ = some (.pointer (some ⟨cb, 0, none⟩))
 kx : Kx B H A X
 kf : KeepsFrom H A X
theorem Q2.fr (h : Q2 A X B H cb yl ub g n bu bg ba mb i cv L v l) (hn : 0 < n) (hb : Pb B H ub g bu bg) {T : Nat → Prop} (k : Fr T X Y) (hT : ∀ b, T b → A.heap.size ≤ b) (hHA : H ≤ A.heap.size) (hba : ¬ T ba) (hmb : ¬ T mb) (hv : ∀ b, v.ownBlock = some b → ¬ T b) : Q2 A Y B H cb yl ub g n bu bg ba mb i cv L v l := by
 have hy := hb.y
 exact ⟨h.p.bk hn hb (Bk.fr k (fun b e => by have := hT b e; omega)) k.size, ⟨(k.cell (p := ⟨mb, 0, none⟩) (cell_lt (a := ⟨mb, 0, none⟩) h.m.box) hmb).trans h.m.box, (k.frozen (p := ⟨mb, 0, none⟩) (cell_lt (a := ⟨mb, 0, none⟩) h.m.box) hmb).trans h.m.nf, h.m.own.frame k hv⟩,
  (k.cell (p := ⟨ba, 0, none⟩) (cell_lt (a := ⟨ba, 0, none⟩) h.f0) hba).trans h.f0, (k.cell (p := ⟨ba, 1, none⟩) (cell_lt (a := ⟨ba, 0, none⟩) h.f0) hba).trans h.f1, h.kx.fr k (fun b e => ⟨by have := hT b e; omega, .inr (hT b e)⟩) (by omega), h.kf.trans (k.keeps _)⟩
theorem Q2.below (h : Q2 A X B H cb yl ub g n bu bg ba mb i cv L v l) (hn : 0 < n) (hb : Pb B H ub g bu bg) (k : Below X.heap.size X Y) (hHA : H ≤ A.heap.size) : Q2 A Y B H cb yl ub g n bu bg ba mb i cv L v l :=
 h.fr hn hb (T := fun _ => False) (Fr.of_below k) (fun _ q => q.elim) hHA (fun q => q) (fun q => q) (fun _ _ q => q)
theorem Q2.sm (h : Q2 A X B H cb yl ub g n bu bg ba mb i cv L v l) (hn : 0 < n) (hb : Pb B H ub g bu bg) {B' : Nat} (k : Sm B' X Y) (hA : A.heap.size ≤ B') (hB : B ≤ B') : Q2 A Y B H cb yl ub g n bu bg ba mb i cv L v l :=
 ⟨h.p.bk hn hb (Bk.sm k) k.size, ⟨k.cell h.m.box, k.frozen h.m.box h.m.nf, h.m.own.sm k⟩, k.cell h.f0, k.cell h.f1, h.kx.sm k hB, h.kf.sm k hA⟩
theorem Q2.top (h : Q2 A X B H cb yl ub g n bu bg ba mb i cv L v l) (hb : Pb B H ub g bu bg) (k : Fr (fun b => b = g) X Y) {G : Nat → Nat} (hu : Uf Y ub g n n G) (hG : ∀ j, rootF G j = L j) (hHA : H ≤ A.heap.size) (hba : H ≤ ba) (hmb : H ≤ mb) : Q2 A Y B H cb yl ub g n bu bg ba mb i cv L v l := by
 have hy := hb.g2
 have hy1 := hb.g1
 exact ⟨h.p.top hb k hu hG, ⟨(k.cell (p := ⟨mb, 0, none⟩) (cell_lt (a := ⟨mb, 0, none⟩) h.m.box) (by show ¬ mb = g; omega)).trans h.m.box, (k.frozen (p := ⟨mb, 0, none⟩) (cell_lt (a := ⟨mb, 0, none⟩) h.m.box) (by show ¬ mb = g; omega)).trans h.m.nf, h.m.own.frame k (fun b e q => by have := (h.m.own.lt b e).1; omega)⟩,
  (k.cell (p := ⟨ba, 0, none⟩) (cell_lt (a := ⟨ba, 0, none⟩) h.f0) (by show ¬ ba = g; omega)).trans h.f0, (k.cell (p := ⟨ba, 1, none⟩) (cell_lt (a := ⟨ba, 0, none⟩) h.f0) (by show ¬ ba = g; omega)).trans h.f1, h.kx.fr k (fun b e => by subst e; exact ⟨by omega, .inl hy⟩) (by omega), h.kf.trans (k.keeps _)⟩
theorem Q2.app (h : Q2 A X B H cb yl ub g n bu bg ba mb i cv L v l) (hn : 0 < n) (hb : Pb B H ub g bu bg) (hHA : H ≤ A.heap.size) (hba : H ≤ ba) (hm1 : A.heap.size ≤ mb) (hbm : ba < mb) {v' : Value} {l' : List Nat} (k : Fr (fun b => b = mb ∨ v.ownBlock = some b) X Y) (hbx : Y.cell? ⟨mb, 0, none⟩ = some v') (hnf : Y.frozen? ⟨mb, 0, none⟩ = false) (ho : HL Y (mb + 1) cb v' l') : Q2 A Y B H cb yl ub g n bu bg ba mb i cv L v' l' := by
 have hlo : ∀ b, v.ownBlock = some b → mb + 1 ≤ b := fun b e => (h.m.own.lt b e).1
 have hy := hb.y
 have hnba : ¬ (ba = mb ∨ v.ownBlock = some ba) := fun q => q.elim (by omega) (fun e => by have := hlo _ e; omega)
 exact ⟨h.p.bk hn hb (Bk.fr k (fun b e => e.elim (fun e => by omega) (fun e => by have := hlo b e; omega))) k.size, ⟨hbx, hnf, ho⟩,
  (k.cell (p := ⟨ba, 0, none⟩) (cell_lt (a := ⟨ba, 0, none⟩) h.f0) hnba).trans h.f0, (k.cell (p := ⟨ba, 1, none⟩) (cell_lt (a := ⟨ba, 0, none⟩) h.f0) hnba).trans h.f1, h.kx.fr k (fun b e => e.elim (fun e => ⟨by omega, .inr (by omega)⟩) (fun e => by have := hlo b e; exact ⟨by omega, .inr (by omega)⟩)) (by omega), h.kf.trans (k.keeps _)⟩
theorem Q2.push (h : Q2 A X B H cb yl ub g n bu bg ba mb i cv L v l) (hn : 0 < n) (hb : Pb B H ub g bu bg) (hHA : H ≤ A.heap.size) (hba : H ≤ ba) (hm1 : A.heap.size ≤ mb) (hbm : ba < mb) {Y w7 : World} (hE : Below X.heap.size X Y) (hg : Y.grownBy w7 v.ownBlock) {v' : Value} {l' : List Nat} (ho : HL w7 (mb + 1) cb v' l') :
 (w7.cell? ⟨mb, 0, none⟩ = some v ∧ w7.frozen? ⟨mb, 0, none⟩ = false) ∧ Q2 A (w7.setCell ⟨mb, 0, none⟩ v') B H cb yl ub g n bu bg ba mb i cv L v' l' ∧ Fr (fun b => b = mb ∨ v.ownBlock = some b) X (w7.setCell ⟨mb, 0, none⟩ v') := by
 have h7 := h.below hn hb hE hHA
 have hF7 : Fr (fun b => v.ownBlock = some b) Y w7 := Fr.grown hg (fun b e => e) h7.m.own.isCells
 have hml : mb < Y.heap.size := cell_lt (a := ⟨mb, 0, none⟩) h7.m.box
 have nmb : ¬ (v.ownBlock = some mb) := fun e => by have := (h.m.own.lt _ e).1; omega
 have c := (hF7.cell (p := ⟨mb, 0, none⟩) hml nmb).trans h7.m.box
 have f := (hF7.frozen (p := ⟨mb, 0, none⟩) hml nmb).trans h7.m.nf
 have hF : Fr (fun b => b = mb ∨ v.ownBlock = some b) X (w7.setCell ⟨mb, 0, none⟩ v') := ((Fr.of_below hE).trans (hF7.mono (fun _ _ e => .inr e))).trans (Fr.setCell (p := ⟨mb, 0, none⟩) (.inl rfl) _)
 refine ⟨⟨c, f⟩, h.app hn hb hHA hba hm1 hbm hF ?_ ?_ ?_, hF⟩
 · rw [cset_map, c]; rfl
 · rw [World.frozen?_setCell]; exact f
 · exact ho.frame (X := fun b => b = mb) (Fr.setCell (X := fun b => b = mb) (p := ⟨mb, 0, none⟩) rfl _) (fun b e q => by have := (ho.lt b e).1; omega)
end
theorem opIn_yield {P : Program} {Q : Exit → Act → World → Prop} {l0 l : Nat} {o : Oper} {a : Act} {w : World} {rest : List Oper} {ops : Array Oper} {x p q : Operand} {ts : Array TypeId} {vp vq : Value} {R : Ending → World → Prop}
 (hg : o.guard = none) (ho : o.op = .call { callee := .value x, args := #[p, q], argTypes := ts }) (hx : a.eval x = .func (.yield l) #[] #[]) (hp : a.eval p = vp) (hq : a.eval q = vq)
 (hY : YieldAt Fence.wide 0 P l #[vp, vq] w R) (hK : ∀ e w', R e w' → ∃ v, e = .returned v ∧ wpListIn (Fence.wide.inRound l0) 0 P ops Q rest (a.put o.dst v) w') : wpListIn (Fence.wide.inRound l0) 0 P ops Q (o :: rest) a w := by
 obtain ⟨fn, tmps, assign, body, hy, hR⟩ := hY
 obtain ⟨dst, op, ty, pos, after, guard⟩ := o
 simp only at ho hg
 subst ho hg
 unfold wpListIn
 rw [if_pos (by simp [Region.wanted])]
 unfold Oper.wpIn
 refine ⟨fun _ _ => trivial, ?_⟩
 rw [Oper.semAt_eq _ _ _ (by intro c e; cases e)]
 have e : (execOp a.eval { dst := dst, op := .call { callee := .value x, args := #[p, q], argTypes := ts }, type := ty, pos := pos, after := after, guard := none }).run P w = .ok (.round l fn tmps assign body) w := by
  have hm : (#[p, q] : Array Operand).map a.eval = #[vp, vq] := by simp [hp, hq]
  simp only [execOp, resolve, hx, hm]
  simp [go_sem, invoke, hy]
 rw [e, Oper.uponIn_round]
 refine ⟨(fun e => by cases e), hR.mono ?_⟩
 intro e w' h
 obtain ⟨v, rfl, h2⟩ := hK e w' h
 exact h2
theorem opIn_plain {P : Program} {Q : Exit → Act → World → Prop} {l0 : Nat} {o : Oper} {a : Act} {w : World} {rest : List Oper} {ops : Array Oper} (hg : o.guard = none) (hd : ∀ c, o.op ≠ .defer c)
 (h : ∀ K, (∀ a w, wpListIn (Fence.wide.inRound l0) 0 P ops Q rest a w → K a w) → o.wp P a w K Q) : wpListIn (Fence.wide.inRound l0) 0 P ops Q (o :: rest) a w := by
 unfold wpListIn
 rw [if_pos (by simp [Region.wanted, hg])]
 exact opIn_of hd (h _ (fun _ _ h => h))
abbrev zcHan : Value := .agg #[.int .i64 0, .pointer none]
theorem infoHan : (Tryz.prog.info? 60).map (fun i => (i.zero, i.size, i.bytes)) = some (some zcHan, 2, 16) := by kernel_rfl
theorem cntp_up (p : Nat → Bool) {a b : Nat} (h : a ≤ b) : cntp p a ≤ cntp p b := by
 induction b with
 | zero => have : a = 0 := by omega
  subst this; exact Nat.le_refl _
 | succ b ih =>
  by_cases e : a = b + 1
  · subst e; exact Nat.le_refl _
  · have := ih (by omega)
    show cntp p a ≤ cntp p b + (if p b = true then 1 else 0)
    split <;> omega
theorem cntp_in (p : Nat → Bool) {i n : Nat} (hi : i < n) (hp : p i = true) : cntp p i < cntp p n := by
 have := cntp_up p (show i + 1 ≤ n by omega)
 rw [cntp, hp] at this
 simp at this
 omega
theorem groups_it (cb n : Nat) (U : Nat → Int) (S : Nat → Value) (M : Nat) (w : World) (hC : Cs w cb n (colOf U) S) (hn : n ≤ 12) (h0n : 0 < n) (hM : (conL (colOf U) n).length = M * 5) (hMk : M ≤ 1000)
 (L : Nat → Nat) (hL : ∀ j, L j = lab (edg U (ofL (conL (colOf U) n))) M j) (fx : Nat → Bool) :
 ItG Tryz.prog 24 #[.pointer (some ⟨cb, 0, none⟩)] (ColF cb n fx) (GrE cb n fx L) (cntp (fstB fx L) n) w := by
 intro l J W hbW hJ hJc hJ0 hY
 have hset := cset_map
 have hCW := hC.below hbW
 refine callsIn_wide.2 (calls_of_wp_marks Tryz.func24 rfl ?_)
 simp only [Tryz.ntmps24, List.size_toArray, List.length_cons, List.length_nil, Nat.reduceAdd, Nat.reduceSub, Array.replicate_succ, Array.replicate_zero, List.push_toArray, List.append_toArray, List.nil_append, List.cons_append]
 go_upto_region 2 with (go_at_call 45; refine (joined_q cb n U S M _ (hCW.below (((Below.refl _ _).alloc (Nat.le_refl _) _).alloc (by simp) _)) hn hM hMk).mono ?_; rintro e w1 ⟨ub, g, G, rfl, hgu, hU1, hG1, hb1⟩)
 simp only [World.size_alloc] at hgu hb1
 have hz1 := hb1.size
 simp only [World.size_alloc] at hz1
 have p0 := (hb1.cell (p := ⟨W.heap.size, 0, none⟩) (by show W.heap.size < W.heap.size + 1 + 1; omega)).trans (by go_simp : _ = some (.pointer (some ⟨cb, 0, none⟩)))
 have p1 := (hb1.cell (p := ⟨W.heap.size + 1, 0, none⟩) (by show W.heap.size + 1 < W.heap.size + 1 + 1; omega)).trans (by go_simp : _ = some (.func (.yield l) #[] #[]))
 have hbA : Below W.heap.size W w1 := (((Below.refl _ W).alloc (Nat.le_refl _) _).alloc (by simp) _).trans (hb1.mono (by omega))
 have hE2 : Below w1.heap.size w1 ((w1.alloc (Obj.cells #[.pointer (some ⟨ub, 0, none⟩)] 84)).alloc (Obj.cells #[.int .i64 0] 3)) := ((Below.refl _ _).alloc (Nat.le_refl _) _).alloc (by simp) _
 have hB2 : Below W.heap.size W ((w1.alloc (Obj.cells #[.pointer (some ⟨ub, 0, none⟩)] 84)).alloc (Obj.cells #[.int .i64 0] 3)) := hbA.trans (hE2.mono (by omega))
 have hz2 : ((w1.alloc (Obj.cells #[.pointer (some ⟨ub, 0, none⟩)] 84)).alloc (Obj.cells #[.int .i64 0] 3)).heap.size = w1.heap.size + 1 + 1 := by simp
 have cu : ((w1.alloc (Obj.cells #[.pointer (some ⟨ub, 0, none⟩)] 84)).alloc (Obj.cells #[.int .i64 0] 3)).cell? ⟨w1.heap.size, 0, none⟩ = some (.pointer (some ⟨ub, 0, none⟩)) := by go_simp
 have cg : ((w1.alloc (Obj.cells #[.pointer (some ⟨ub, 0, none⟩)] 84)).alloc (Obj.cells #[.int .i64 0] 3)).cell? ⟨w1.heap.size + 1, 0, none⟩ = some (.int .i64 0) := by go_simp
 have fg : ((w1.alloc (Obj.cells #[.pointer (some ⟨ub, 0, none⟩)] 84)).alloc (Obj.cells #[.int .i64 0] 3)).frozen? ⟨w1.heap.size + 1, 0, none⟩ = false := by go_simp
 generalize ((w1.alloc (Obj.cells #[.pointer (some ⟨ub, 0, none⟩)] 84)).alloc (Obj.cells #[.int .i64 0] 3)) = w2 at hE2 hB2 hz2 cu cg fg ⊢
 have hU2 := hU1.on hE2
 have l2 := hU1.l2
 have l1 := hU1.l1
 have hn5 := hU1.ne
 have hPv : Pv w2 W.heap.size cb l ub g n w1.heap.size (w1.heap.size + 1) L 0 :=
  ⟨(hE2.cell (p := ⟨W.heap.size, 0, none⟩) (by show W.heap.size < w1.heap.size; omega)).trans p0, (hE2.cell (p := ⟨W.heap.size + 1, 0, none⟩) (by show W.heap.size + 1 < w1.heap.size; omega)).trans p1, cu, cg, fg, G, hU2, fun j => (hG1 j).trans (hL j).symm⟩
 have hPb : Pb W.heap.size w2.heap.size ub g w1.heap.size (w1.heap.size + 1) := by
  refine ⟨by omega, by omega, by omega, by omega, by omega, by omega, by omega, by omega, by omega, by omega, by omega, by omega, by omega, hn5⟩
 have hJ2 := hJ0 w2 hB2
 have hC2 := hCW.below hB2
 have p0' := hPv.c0
 clear hL p0 p1 hbA hE2 hU2 l1 l2 hn5 hU1 hG1 hb1 hgu cu cg fg
 generalize w1.heap.size + 1 = bg at hPv hPb hz2 ⊢
 generalize w1.heap.size = bu at hPv hPb hz2 hz1 ⊢
 have hHB : W.heap.size ≤ w2.heap.size := hB2.size
 obtain ⟨ad, cc, hS0⟩ := (hC2.own 0 (by omega)).is
 have hd0 := hC2.hd 0 (by omega)
 rw [hS0] at hd0
 go_wp2
 refine wp_range_out (gf := 33) (bound := #[.pointer (some ⟨cb, 0, none⟩)]) rfl each_enters (each_it cb n _ _ w2 hC2.lt hd0 (by omega)) (fun _ => rfl) (fun i A => Pv A W.heap.size cb l ub g n bu bg L (cntp (fstB fx L) i) ∧ J w2.heap.size (cntp (fstB fx L) i) A ∧ w2.heap.size ≤ A.heap.size) (fun _ _ => False) ?_ (fun _ _ _ h _ => h) ⟨hPv, hJ2, Nat.le_refl _⟩ ?round ?done (fun _ _ _ _ h _ => h.elim)
 · rintro i A A' ⟨h1, h2, h3⟩ hs
   exact ⟨h1.bk h0n hPb (Bk.sm hs) hs.size, hJ _ _ _ _ h2 (Kx.of_sm hs hHB), Nat.le_trans h3 hs.size⟩
 case done =>
  rintro D A hD ⟨h1, h2, h3⟩ hK
  go_wp2
  refine marks_ret (B := w2.heap.size) hD rfl hK fun A' hS => ⟨_, results_none rfl _ _ _, ⟨_, rfl⟩, w2.heap.size, ?_⟩
  exact hJ _ _ _ _ h2 (Kx.of_sm hS hHB)
 case round =>
  rintro l0 i A hl0 ⟨hP, hJA, hHA0⟩ hi
  clear hPv hJ2 hC2 hd0 hS0 p0'
  obtain ⟨H, hH⟩ : ∃ x, w2.heap.size = x := ⟨_, rfl⟩
  rw [hH] at hPb hJA hHA0 hHB hl0 ⊢
  obtain ⟨B, hB⟩ : ∃ x, W.heap.size = x := ⟨_, rfl⟩
  rw [hB] at hPb hP hHB hJ hY ⊢
  simp only [List.zip_toArray, List.zip_cons_cons, List.zip_nil_left, List.foldl_toArray, List.foldl_cons, List.foldl_nil, List.setIfInBounds_toArray, List.set_cons_succ, List.set_cons_zero]
  refine wpIn_region_plain (by rintro ⟨_, _, h⟩; exact h) (by kernel_rfl) ?_
  go_wp2
  refine ⟨(KeepsOthers.alloc _ _).from _, fun A2 hS hr => ?_⟩
  obtain ⟨rr, hrr⟩ := hr
  have hE1 : Below A.heap.size A (A.alloc (Obj.cells #[.int .i64 (i : Int), .pointer (some ⟨cb, 0, none⟩)] 60)) := (Below.refl _ _).alloc (Nat.le_refl _) _
  have v0 : (A.alloc (Obj.cells #[.int .i64 (i : Int), .pointer (some ⟨cb, 0, none⟩)] 60)).cell? ⟨A.heap.size, 0, none⟩ = some (.int .i64 (i : Int)) := by go_simp
  have v1 : (A.alloc (Obj.cells #[.int .i64 (i : Int), .pointer (some ⟨cb, 0, none⟩)] 60)).cell? ⟨A.heap.size, 1, none⟩ = some (.pointer (some ⟨cb, 0, none⟩)) := by go_simp
  have hz3 : (A.alloc (Obj.cells #[.int .i64 (i : Int), .pointer (some ⟨cb, 0, none⟩)] 60)).heap.size = A.heap.size + 1 := by simp
  generalize (A.alloc (Obj.cells #[.int .i64 (i : Int), .pointer (some ⟨cb, 0, none⟩)] 60)) = A1 at hE1 v0 v1 hz3 hS
  have hP2 := (hP.bk h0n hPb (Bk.below hE1) hE1.size).bk h0n hPb (Bk.sm hS) hS.size
  have hJ2 := hJ _ _ _ _ hJA ((Kx.of_below hE1 (by omega)).sm hS (by omega))
  replace v0 := hS.cell v0
  replace v1 := hS.cell v1
  have hzA := hS.size
  clear hP hJA hE1 hS
  obtain ⟨ba, hba0⟩ : ∃ x, A.heap.size = x := ⟨_, rfl⟩
  rw [hba0] at v0 v1 hz3 hHA0 ⊢
  clear hba0
  have hba : H ≤ ba := hHA0
  have hHA : H ≤ A2.heap.size := by omega
  have hbaA : ba < A2.heap.size := by omega
  obtain ⟨C2, S2, hCs, hfx⟩ := hJc _ _ _ hJ2
  have hfi := hfx i hi
  have u0 := hP2.cu
  refine wpIn_block ?_
  refine wpIn_seq_k fun K1 hK1 => ?_
  refine wpIn_seq_k fun K2 hK2 => ?_
  have stay : ∀ Y, Pv Y B cb l ub g n bu bg L (cntp (fstB fx L) i) → J H (cntp (fstB fx L) i) Y → KeepsFrom H A2 Y → A2.heap.size ≤ Y.heap.size → fstB fx L i = false → KeepsFrom H A2 Y ∧ Pv Y B cb l ub g n bu bg L (cntp (fstB fx L) (i + 1)) ∧ J H (cntp (fstB fx L) (i + 1)) Y ∧ H ≤ Y.heap.size := fun Y h1 h2 h3 h4 h5 => by
   have e : cntp (fstB fx L) (i + 1) = cntp (fstB fx L) i := by rw [cntp, h5]; rfl
   rw [e]
   exact ⟨h3, h1, h2, Nat.le_trans hHA h4⟩
  obtain ⟨fi, hfe⟩ : ∃ b, fx i = b := ⟨_, rfl⟩
  rw [hfe] at hfi
  cases fi with
  | true =>
   have hno : fstB fx L i = false := by unfold fstB; rw [hfe]; rfl
   refine wpIn_region_held_drew (S := fun w' => w'.cell? ⟨bu, 0, none⟩ = some (.pointer (some ⟨ub, 0, none⟩)) ∧ w'.cell? ⟨ba, 0, none⟩ = some (.int .i64 (i : Int)) ∧ w'.cell? ⟨ba, 1, none⟩ = some (.pointer (some ⟨cb, 0, none⟩))) (by kernel_rfl) (by rintro ⟨_, _, h⟩; exact h) (by kernel_rfl) ?_ (fun hHeld => ?_)
   · (try dsimp only)
     (first | (go_simp; done) | (go_keep; done))
   refine tq 0 hHeld ?_
   refine tc 1 fun K hK => ?_
   (go_simp
    have hD : Below A2.heap.size A2 A2.drew := Below.drew (Below.refl _ _)
    (go_at_call 42; refine (kFixed_q (Cs.hat (hCs.below hD) hi (by omega)) hfi).mono ?_; rintro e w11 ⟨rfl, hx⟩)
    have hb1 : Below A2.heap.size A2 w11 := hD.trans hx
    clear hx hD
    have hP3 := hP2.bk h0n hPb (Bk.below hb1) hb1.size
    have hk3 : Kx B H A2 w11 := Kx.of_below hb1 (by omega)
    have hf3 : KeepsFrom H A2 w11 := KeepsFrom.of_below hb1
    clear u0
    have u0 := hP3.cu
    have x0 := (hb1.cell (p := ⟨ba, 0, none⟩) hbaA).trans v0
    have x1 := (hb1.cell (p := ⟨ba, 1, none⟩) hbaA).trans v1
    have hz4 := hb1.size
    (try go_wp2_with fail)
    refine tr hK (fun hHeld => ?_)
    clear hK K)
   refine tq 2 hHeld ?_
   refine tn 3 hHeld ?_
   refine tn 4 hHeld ?_
   refine tn 5 hHeld ?_
   refine tn 6 hHeld ?_
   refine tn 7 hHeld ?_
   refine tn 8 hHeld ?_
   refine tn 9 hHeld ?_
   refine tq 10 hHeld ?_
   refine wpAnyH_done (by kernel_rfl) ?_ _
   go_wp2_with fail
   refine wpIn_cond_true rfl ?_
   refine wpIn_exit ?_
   exact stay _ hP3 (hJ _ _ _ _ hJ2 hk3) hf3 hz4 hno
  | false =>
   obtain ⟨be, hbe⟩ : ∃ b, ((L i : Int) != (i : Int)) = b := ⟨_, rfl⟩
   refine wpIn_region_held_drew (S := fun w' => w'.cell? ⟨bu, 0, none⟩ = some (.pointer (some ⟨ub, 0, none⟩)) ∧ w'.cell? ⟨ba, 0, none⟩ = some (.int .i64 (i : Int)) ∧ w'.cell? ⟨ba, 1, none⟩ = some (.pointer (some ⟨cb, 0, none⟩))) (by kernel_rfl) (by rintro ⟨_, _, h⟩; exact h) (by kernel_rfl) ?_ (fun hHeld => ?_)
   · (try dsimp only)
     (first | (go_simp; done) | (go_keep; done))
   refine tq 0 hHeld ?_
   refine tc 1 fun K hK => ?_
   (go_simp
    have hD : Below A2.heap.size A2 A2.drew := Below.drew (Below.refl _ _)
    (go_at_call 42; refine (kFixed_q (Cs.hat (hCs.below hD) hi (by omega)) hfi).mono ?_; rintro e w11 ⟨rfl, hx⟩)
    have hb1 : Below A2.heap.size A2 w11 := hD.trans hx
    clear hx hD
    have hP3 := hP2.bk h0n hPb (Bk.below hb1) hb1.size
    have hk3 : Kx B H A2 w11 := Kx.of_below hb1 (by omega)
    have hf3 : KeepsFrom H A2 w11 := KeepsFrom.of_below hb1
    clear u0
    have u0 := hP3.cu
    have x0 := (hb1.cell (p := ⟨ba, 0, none⟩) hbaA).trans v0
    have x1 := (hb1.cell (p := ⟨ba, 1, none⟩) hbaA).trans v1
    have hz4 := hb1.size
    (try go_wp2_with fail)
    refine tr hK (fun hHeld => ?_)
    clear hK K)
   refine tq 2 hHeld ?_
   refine tq 3 hHeld ?_
   refine tq 4 hHeld ?_
   refine tq 5 hHeld ?_
   refine tq 7 hHeld ?_
   refine tq 8 hHeld ?_
   refine tc 6 fun K hK => ?_
   (go_simp
    obtain ⟨G, hu, hG⟩ := hP3.uf
    have hrk := hG i
    (go_at_call 46; refine (top_q ub g n n i G _ hu hi).mono ?_; rintro e w12 ⟨he, ⟨G', hu', hGG⟩, hF⟩; rw [hrk] at he; subst he)
    have hP4 := hP3.top hPb hF hu' (fun j => (hGG j).trans (hG j))
    have hg1 := hPb.g1
    have hg2 := hPb.g2
    have hk4 : Kx B H A2 w12 := hk3.fr hF (fun b e => by subst e; exact ⟨by omega, .inl hg2⟩) (by omega)
    have hf4 : KeepsFrom H A2 w12 := hf3.trans (hF.keeps _)
    replace x0 := (hF.cell (p := ⟨ba, 0, none⟩) (by show ba < w11.heap.size; omega) (by show ¬ ba = g; omega)).trans x0
    replace x1 := (hF.cell (p := ⟨ba, 1, none⟩) (by show ba < w11.heap.size; omega) (by show ¬ ba = g; omega)).trans x1
    clear u0
    have u0 := hP4.cu
    have hz5 := Nat.le_trans hz4 hF.size
    clear hP3 hk3 hf3 hF hu hu' hGG hG hrk G G'
    (try go_wp2_with fail)
    refine tr hK (fun hHeld => ?_)
    clear hK K)
   refine tq 9 hHeld ?_
   refine tq 10 hHeld ?_
   refine wpAnyH_done (by kernel_rfl) ?_ _
   go_wp2_with fail
   cases be with
   | true =>
    refine wpIn_cond_true rfl ?_
    refine wpIn_exit ?_
    exact stay _ hP4 (hJ _ _ _ _ hJ2 hk4) hf4 hz5 (by have := bne_iff_ne.1 hbe; unfold fstB; rw [hfe, decide_eq_false (by omega)]; rfl)
   | false =>
    have hLi : L i = i := by have := bne_eq_false_iff_eq.1 hbe; omega
    have hyes : fstB fx L i = true := by unfold fstB; rw [hfe, decide_eq_true hLi]; rfl
    refine wpIn_cond_false rfl ?_
    refine wpIn_skip ?_
    refine hK1 _ _ ?_
    refine wpIn_seq_k fun K3 hK3 => ?_
    refine wpIn_region_plain (by rintro ⟨_, _, h⟩; exact h) (by kernel_rfl) ?_
    go_wp2
    have hba4 : ba < w12.heap.size := by omega
    have hE4 : Below w12.heap.size w12 (w12.alloc (Obj.cells #[.slice none 0 0] 55)) := (Below.refl _ _).alloc (Nat.le_refl _) _
    have mb0 : (w12.alloc (Obj.cells #[.slice none 0 0] 55)).cell? ⟨w12.heap.size, 0, none⟩ = some (.slice none 0 0) := by go_simp
    have mf0 : (w12.alloc (Obj.cells #[.slice none 0 0] 55)).frozen? ⟨w12.heap.size, 0, none⟩ = false := by go_simp
    have hz6 : (w12.alloc (Obj.cells #[.slice none 0 0] 55)).heap.size = w12.heap.size + 1 := by simp
    generalize (w12.alloc (Obj.cells #[.slice none 0 0] 55)) = A4 at hE4 mb0 mf0 hz6 ⊢
    have hQ0 : Q2 A2 A4 B H cb l ub g n bu bg ba w12.heap.size i (cntp (fstB fx L) i) L (.slice none 0 0) (memL L i 0) :=
     ⟨hP4.bk h0n hPb (Bk.below hE4) hE4.size, ⟨mb0, mf0, HL.nil _ _ _⟩, (hE4.cell (p := ⟨ba, 0, none⟩) hba4).trans x0, (hE4.cell (p := ⟨ba, 1, none⟩) hba4).trans x1, hk4.trans (Kx.of_below hE4 (by omega)), hf4.trans (KeepsFrom.of_below hE4)⟩
    clear hP4 hk4 hf4 hE4 mb0 mf0 x0 x1 u0 v0 v1 hCs hfx hHeld
    generalize w12.heap.size = mb at hQ0 hz6 hz5 hba4 ⊢
    obtain ⟨C4, S4, hC4, -⟩ := hJc _ _ _ (hJ _ _ _ _ hJ2 hQ0.kx)
    obtain ⟨ad4, cc4, hS4⟩ := (hC4.own 0 (by omega)).is
    have hd4 := hC4.hd 0 (by omega)
    rw [hS4] at hd4
    have hr4 := hQ0.kf.same _ _ hl0 hrr rfl
    have c0 := hQ0.p.c0
    refine wpIn_seq_k fun K4 hK4 => ?_
    refine wpIn_seq_k fun K5 hK5 => ?_
    refine wpIn_region_plain (by rintro ⟨_, _, h⟩; exact h) (by kernel_rfl) ?_
    go_wp2
    refine wpIn_block ?_
    refine wpIn_range_in hr4 (gf := 33) (bound := #[.pointer (some ⟨cb, 0, none⟩)]) rfl each_enters (each_it cb n _ _ A4 hC4.lt hd4 (by omega)) (fun _ => rfl)
     (fun k X => ∃ v, Q2 A2 X B H cb l ub g n bu bg ba mb i (cntp (fstB fx L) i) L v (memL L i k) ∧ A4.heap.size ≤ X.heap.size) (fun _ _ => False) ?_ (fun _ _ _ h _ => h) ⟨_, hQ0, Nat.le_refl _⟩ ?round2 ?done2 (fun _ _ h => h.elim)
    · rintro k A Y ⟨v, h1, h2⟩ hs
      exact ⟨v, h1.sm h0n hPb hs (by omega) (by omega), Nat.le_trans h2 hs.size⟩
    case round2 =>
     rintro l1 k X hl1 ⟨v, hQ, hXz⟩ hk
     clear c0 hd4 hS4 hC4 hQ0
     simp only [List.zip_toArray, List.zip_cons_cons, List.zip_nil_left, List.foldl_toArray, List.foldl_cons, List.foldl_nil, List.setIfInBounds_toArray, List.set_cons_succ, List.set_cons_zero]
     refine wpIn_region_plain (by rintro ⟨_, _, h⟩; exact h) (by kernel_rfl) ?_
     go_wp2
     refine ⟨(KeepsOthers.alloc _ _).from _, fun X2 hS2 hr2 => ?_⟩
     clear hr2
     have hE5 : Below X.heap.size X (X.alloc (Obj.cells #[.int .i64 (k : Int), .pointer (some ⟨cb, 0, none⟩)] 60)) := (Below.refl _ _).alloc (Nat.le_refl _) _
     have b0 : X2.cell? ⟨X.heap.size, 0, none⟩ = some (.int .i64 (k : Int)) := hS2.cell (by go_simp)
     have b1 : X2.cell? ⟨X.heap.size, 1, none⟩ = some (.pointer (some ⟨cb, 0, none⟩)) := hS2.cell (by go_simp)
     have hbl : X.heap.size < X2.heap.size := by have := hS2.size; simp at this; omega
     have hQ2 := (hQ.below h0n hPb hE5 hHA).sm h0n hPb hS2 (by omega) (by omega)
     have hml : mb < X.heap.size := cell_lt (a := ⟨mb, 0, none⟩) hQ.m.box
     clear hS2 hE5 hQ
     generalize X.heap.size = bb at b0 b1 hbl hXz hml ⊢
     have hmb : H ≤ mb := by omega
     have hm1 : A2.heap.size ≤ mb := hz5
     have hbm : ba < mb := hba4
     have hg2 := hPb.g2
     have u0 := hQ2.p.cu
     have x0 := hQ2.f0
     have y0 := b0
     refine wpIn_block ?_
     refine wpIn_seq_k fun K6 hK6 => ?_
     obtain ⟨bk, hbk⟩ : ∃ b, ((L k : Int) == (i : Int)) = b := ⟨_, rfl⟩
     refine wpIn_region_held_drew (S := fun w' => w'.cell? ⟨bu, 0, none⟩ = some (.pointer (some ⟨ub, 0, none⟩)) ∧ w'.cell? ⟨bb, 0, none⟩ = some (.int .i64 (k : Int)) ∧ w'.cell? ⟨ba, 0, none⟩ = some (.int .i64 (i : Int))) (by kernel_rfl) (by rintro ⟨_, _, h⟩; exact h) (by kernel_rfl) ?_ (fun hHeld => ?_)
     · (try dsimp only)
       (first | (go_simp; done) | (go_keep; done))
     refine tq 0 hHeld ?_
     refine tq 1 hHeld ?_
     refine tq 2 hHeld ?_
     refine tq 4 hHeld ?_
     refine tq 5 hHeld ?_
     refine tc 3 fun K hK => ?_
     (go_simp
      replace hQ2 := hQ2.below h0n hPb (Below.drew (Below.refl _ _)) hHA
      obtain ⟨G, hu, hG⟩ := hQ2.p.uf
      have hrk := hG k
      (go_at_call 46; refine (top_q ub g n n k G _ hu hk).mono ?_; rintro e w31 ⟨he, ⟨G', hu', hGG⟩, hF⟩; rw [hrk] at he; subst he)
      have hQ3 := hQ2.top hPb hF hu' (fun j => (hGG j).trans (hG j)) hHA hba hmb
      clear u0 x0 y0
      have u0 := hQ3.p.cu
      have x0 := hQ3.f0
      have y0 := (hF.cell (p := ⟨bb, 0, none⟩) hbl (by show ¬ bb = g; omega)).trans b0
      have y1 := (hF.cell (p := ⟨bb, 1, none⟩) hbl (by show ¬ bb = g; omega)).trans b1
      have hbl3 : bb < w31.heap.size := Nat.lt_of_lt_of_le hbl hF.size
      have hKS : KeepsFrom A4.heap.size X2 w31 := (KeepsFrom.of_below (Below.drew (Below.refl _ _))).trans (hF.keeps _)
      have hz31 : X2.heap.size ≤ w31.heap.size := hF.size
      clear hQ2 hF hu hu' hGG hG hrk G G' b0 b1 hbl
      (try go_wp2_with fail)
      refine tr hK (fun hHeld => ?_)
      clear hK K)
     refine tq 6 hHeld ?_
     refine wpAnyH_done (by kernel_rfl) ?_ _
     go_wp2_with fail
     cases bk with
     | false =>
      have hne : ¬ L k = i := by have := beq_eq_false_iff_ne.1 hbk; omega
      refine wpIn_cond_false rfl ?_
      refine wpIn_skip ?_
      exact ⟨hKS, v, by rw [memL, if_neg hne, List.append_nil]; exact hQ3, by omega⟩
     | true =>
      have hne : L k = i := by have := beq_iff_eq.1 hbk; omega
      have m0 := hQ3.m.box
      have hle := memL_le L i k
      refine wpIn_cond_true rfl ?_
      refine wpIn_region_plain (by rintro ⟨_, _, h⟩; exact h) (by kernel_rfl) ?_
      have hE7 : Below w31.heap.size w31 (w31.alloc (Obj.cells #[.int .i64 (k : Int), .pointer (some ⟨cb, 0, none⟩)] 60)) := (Below.refl _ _).alloc (Nat.le_refl _) _
      have hL7 := hQ3.m.own.below hE7
      have q0 : (w31.alloc (Obj.cells #[.int .i64 (k : Int), .pointer (some ⟨cb, 0, none⟩)] 60)).cell? ⟨w31.heap.size, 0, none⟩ = some (.int .i64 (k : Int)) := by go_simp
      have q1 : (w31.alloc (Obj.cells #[.int .i64 (k : Int), .pointer (some ⟨cb, 0, none⟩)] 60)).cell? ⟨w31.heap.size, 1, none⟩ = some (.pointer (some ⟨cb, 0, none⟩)) := by go_simp
      have hml3 : mb < w31.heap.size := cell_lt (a := ⟨mb, 0, none⟩) hQ3.m.box
      go_wp2_with (refine wpList_happ rfl _ _ _ rfl zcHan Tryz.underlying55 infoHan rfl (mb + 1) cb v (memL L i k) rfl hL7 w31.heap.size rfl k q0 q1 (by omega) (by simp only [World.size_alloc]; omega) ?_; intro g7 c7 w7 ho7 hg7; rw [show (memL L i k ++ [k]).length = (memL L i k).length + 1 by simp] at ho7; obtain ⟨⟨n0, nf⟩, hQ4, hF4⟩ := hQ3.push h0n hPb hHA hba hm1 hbm hE7 hg7 ho7)
      exact ⟨hKS.trans (hF4.keeps _), _, by rw [memL, if_pos hne]; exact hQ4, by have := hF4.size; omega⟩
    case done2 =>
     rintro X ⟨v, hQ, hz⟩
     refine hK4 _ _ ?_
     clear c0 hd4 hS4 hC4 hQ0
     have hJX := hJ _ _ _ _ hJ2 hQ.kx
     have hle := cntp_le (fstB fx L) i
     have hlt := cntp_in (fstB fx L) hi hyes
     have hEE : GrE cb n fx L H (cntp (fstB fx L) i) #[.int .i64 ((cntp (fstB fx L) i : Nat) : Int), v] X := ⟨i, v, hi, hyes, rfl, rfl, hQ.m.own.base (by omega)⟩
     have hyy := hY H _ X _ hJX hlt hEE
     have c1 := hQ.p.c1
     have cg := hQ.p.cg
     have m0 := hQ.m.box
     refine wpIn_seq_k fun K7 hK7 => ?_
     refine wpIn_seq_k fun K8 hK8 => ?_
     refine wpIn_region_list ?_
     refine opIn_plain rfl (fun c e => by cases e) fun K hK => ?_
     go_simp
     refine hK _ _ ?_
     clear hK K
     refine opIn_plain rfl (fun c e => by cases e) fun K hK => ?_
     go_simp
     refine hK _ _ ?_
     clear hK K
     refine opIn_plain rfl (fun c e => by cases e) fun K hK => ?_
     go_simp
     refine hK _ _ ?_
     clear hK K
     refine opIn_yield rfl rfl rfl rfl rfl hyy ?_
     rintro e X3 ⟨rfl, hJ3, hKc⟩
     refine ⟨_, rfl, ?_⟩
     refine opIn_plain rfl (fun c e => by cases e) fun K hK => ?_
     go_simp
     refine hK _ _ ?_
     clear hK K
     refine wpListIn_nil ?_
     refine hK8 _ _ ?_
     refine wpIn_cond_false rfl ?_
     refine wpIn_skip ?_
     refine hK7 _ _ ?_
     have hP3 := hQ.p.bk h0n hPb hKc.band hKc.others.size
     have hkf3 : KeepsFrom H A2 X3 := hQ.kf.trans ⟨hKc.others.size, fun k o hk h1 h2 => hKc.others.same k o (by omega) h1 h2⟩
     have hz8 := hkf3.size
     clear c1 cg m0 hyy hJX hEE hKc hQ
     have cg := hP3.cg
     have fg := hP3.fg
     have hg8 := hPb.bg1
     have hg9 := hPb.bg2
     have hz9 : bg < X3.heap.size := cell_lt (a := ⟨bg, 0, none⟩) cg
     have hstp : cntp (fstB fx L) (i + 1) = cntp (fstB fx L) i + 1 := by rw [cntp, hyes]; rfl
     have hP5 := hP3.next hPb (cntp (fstB fx L) i + 1)
     have hF5 : Fr (fun b => b = bg) X3 (X3.setCell ⟨bg, 0, none⟩ (.int .i64 ((cntp (fstB fx L) i + 1 : Nat) : Int))) := Fr.setCell (X := fun b => b = bg) (p := ⟨bg, 0, none⟩) rfl _
     have hJ5 := hJ _ _ _ _ hJ3 ((Kx.refl B H X3).fr hF5 (fun b e => by subst e; exact ⟨by omega, .inl hg9⟩) (by omega))
     have hi5 : ((cntp (fstB fx L) i + 1 : Nat) : Int) = ((cntp (fstB fx L) i : Nat) : Int) + 1 := by omega
     rw [hi5] at hP5 hF5 hJ5
     refine wpIn_region_plain (by rintro ⟨_, _, h⟩; exact h) (by kernel_rfl) ?_
     go_wp2
     rw [hstp]
     exact ⟨hkf3.trans (hF5.keeps _), hP5, hJ5, by have := hF5.size; omega⟩
theorem groups_any (cb n : Nat) (U : Nat → Int) (S : Nat → Value) (M : Nat) (w : World) (hC : Cs w cb n (colOf U) S) (hn : n ≤ 12) (hM : (conL (colOf U) n).length = M * 5) (hMk : M ≤ 1000)
 (L : Nat → Nat) (hL : ∀ j, L j = lab (edg U (ofL (conL (colOf U) n))) M j) (fx : Nat → Bool) :
 ItG Tryz.prog 24 #[.pointer (some ⟨cb, 0, none⟩)] (ColF cb n fx) (GrE cb n fx L) (cntp (fstB fx L) n) w := by
 rcases Nat.eq_zero_or_pos n with h0 | h0
 · subst h0
   intro l J W hbW hJ hJc hJ0 hY
   refine callsIn_wide.2 (Calls.mono (groups0 cb l W (E0.of (hC.below hbW))) ?_)
   rintro e w' ⟨he, hb⟩
   exact ⟨he, _, hJ0 w' hb⟩
 · exact groups_it cb n U S M w hC hn h0 hM hMk L hL fx
end Go.Proofs.YtalkkjhehndaoaaGreat
namespace Go.Proofs.YtalkkjhehndaoaaGreat
open Go.RowKit
set_option linter.unusedVariables false
set_option linter.unusedSimpArgs false
structure LsV (w wr : World) (t k : Nat) (a : Option Addr) (m c : Nat) (l : List Int) : Prop where
 bel : Below w.heap.size w wr
 len : l.length = m * k
 own : OwnL wr w.heap.size t k (.slice a m c) m (ofL l)
theorem LsV.below {w wr w' : World} {t k m c : Nat} {a : Option Addr} {l : List Int} (h : LsV w wr t k a m c l) (hb : Below wr.heap.size wr w') : LsV w w' t k a m c l := ⟨h.bel.trans (hb.mono h.bel.size), h.len, h.own.below hb⟩
theorem LsV.push {w wr w1 : World} {t k m c c' : Nat} {a a' : Option Addr} {l x : List Int} (h : LsV w wr t k a m c l) (hx : x.length = k) (hg : wr.grownBy w1 (Value.slice a m c).ownBlock) (ho : OwnL w1 w.heap.size t k (.slice a' (m + 1) c') (m + 1) (cat (m * k) (ofL l) (ofL x))) : LsV w w1 t k a' (m + 1) c' (l ++ x) :=
 ⟨h.bel.grown hg h.bel.size (fun b e => (h.own.lt b e).1), by rw [List.length_append, h.len, hx, Nat.succ_mul], by rw [← cat_ofL, h.len]; exact ho⟩
theorem LsV.new (w : World) (t k : Nat) : LsV w (w.alloc (.cells #[] t)) t k (some ⟨w.heap.size, 0, none⟩) 0 0 [] :=
 ⟨(Below.refl _ _).alloc (Nat.le_refl _) _, by simp, ⟨by simp [numL], .inr ⟨w.heap.size, 0, #[], rfl, Nat.le_refl _, Go.Deep.blk_alloc_new _ _, Nat.le_refl _, Nat.zero_le _, by simp, by simp [numL]⟩⟩⟩
theorem LsV.nil (w : World) (t k : Nat) : LsV w w t k none 0 0 [] := ⟨Below.refl _ _, by simp, OwnL.nil _ _ _ _ _⟩
theorem LsV.out {w0 w wr : World} {t k m c : Nat} {a : Option Addr} {l : List Int} (h : LsV w wr t k a m c l) (hb : Below w0.heap.size w0 w) : OutL w0 wr t k a m c (ofL l) := ⟨hb.trans (h.bel.mono hb.size), h.own.base hb.size⟩
structure Nb (w : World) (b k : Nat) (V : Nat → Int) : Prop where
 c : ∀ j, j < k → w.cell? ⟨b, j, none⟩ = some (.int .i64 (V j))
 f : ∀ o, w.frozen? ⟨b, o, none⟩ = false
 l : b < w.heap.size
theorem Nb.on {w w' : World} {b k : Nat} {V : Nat → Int} (h : Nb w b k V) (hb : Below w.heap.size w w') : Nb w' b k V :=
 ⟨fun j hj => (hb.cell (p := ⟨b, j, none⟩) h.l).trans (h.c j hj), fun o => (hb.frozen (p := ⟨b, o, none⟩) h.l).trans (h.f o), Nat.lt_of_lt_of_le h.l hb.size⟩
theorem Nb.fr {w w' : World} {b k : Nat} {V : Nat → Int} {X : Nat → Prop} (h : Nb w b k V) (hs : Fr X w w') (hx : ¬ X b) : Nb w' b k V :=
 ⟨fun j hj => (hs.cell (p := ⟨b, j, none⟩) h.l hx).trans (h.c j hj), fun o => (hs.frozen (p := ⟨b, o, none⟩) h.l hx).trans (h.f o), Nat.lt_of_lt_of_le h.l hs.size⟩
theorem Nb.dr {w : World} {b k : Nat} {V : Nat → Int} (h : Nb w b k V) : Nb w.drew b k V := ⟨fun j hj => h.c j hj, fun o => h.f o, h.l⟩
theorem Nb.congr {w : World} {b k : Nat} {V W : Nat → Int} (h : Nb w b k V) (e : ∀ j, j < k → V j = W j) : Nb w b k W := ⟨fun j hj => by rw [← e j hj]; exact h.c j hj, h.f, h.l⟩
theorem Nb.set {w : World} {b k : Nat} {V : Nat → Int} (h : Nb w b k V) (j : Nat) (hj : j < k) (x : Int) : Nb (w.setCell ⟨b, j, none⟩ (.int .i64 x)) b k (fun i => if i = j then x else V i) := by
 have h1 := h.c j hj
 refine ⟨fun i hi => ?_, fun o => ?_, by simp; exact h.l⟩
 · by_cases e : i = j
   · subst e; rw [if_pos rfl]; exact World.cell?_setCell_same _ _ _ h1
   · rw [if_neg e, World.cell?_setCell_other _ _ _ _ (by intro h; simp only [Addr.mk.injEq] at h; omega)]; exact h.c i hi
 · have := h.f o; simp [this]
structure LV (w wr : World) (t g cap n : Nat) (xs : List Value) : Prop where
 bel : Below w.heap.size w wr
 len : xs.length = n
 own : wr.ownsRow w.heap.size t 1 (.slice (some ⟨g, 0, none⟩) n cap) n xs
theorem LV.new {w wr : World} (t : Nat) (h : Below w.heap.size w wr) {s : Nat} (e : wr.heap.size = s) : LV w (wr.alloc (.cells #[] t)) t s 0 0 [] := by
 subst e
 exact ⟨h.alloc h.size _, rfl, ⟨rfl, .inr ⟨wr.heap.size, 0, #[], rfl, h.size, Go.Deep.blk_alloc_new _ _, Nat.le_refl _, Nat.zero_le _, by simp, by simp⟩⟩⟩
theorem LV.lt {w wr : World} {t g cap n : Nat} {xs : List Value} (h : LV w wr t g cap n xs) : w.heap.size ≤ g ∧ g < wr.heap.size := World.ownsRow.lt h.own g rfl
theorem LV.fro {w wr : World} {t g cap n : Nat} {xs : List Value} (h : LV w wr t g cap n xs) (j : Nat) : wr.frozen? ⟨g, j, none⟩ = false := World.ownsRow.frozenAt h.own j
theorem LV.cell {w wr : World} {t g cap n : Nat} {xs : List Value} (h : LV w wr t g cap n xs) {j : Nat} {u : Value} (hu : xs[j]? = some u) : wr.cell? ⟨g, j, none⟩ = some u := by
 have hj : j < n := by rw [← h.len]; exact (List.getElem?_eq_some_iff.1 hu).1
 rw [World.ownsRow.cellAt h.own j (by omega), hu]
theorem LV.on {w wr w' : World} {t g cap n : Nat} {xs : List Value} (h : LV w wr t g cap n xs) (hb : Below wr.heap.size wr w') : LV w w' t g cap n xs :=
 ⟨h.bel.trans (hb.mono h.bel.size), h.len, World.ownsRow.kept h.own (below_grown hb rfl) (.inr (by simp [Value.ownBlock]))⟩
theorem LV.dr {w wr : World} {t g cap n : Nat} {xs : List Value} (h : LV w wr t g cap n xs) : LV w wr.drew t g cap n xs := h.on (Below.drew (Below.refl _ _))
theorem LV.set {w wr : World} {t g cap n : Nat} {xs : List Value} (h : LV w wr t g cap n xs) (j : Nat) (u : Value) : LV w (wr.setCell ⟨g, j, none⟩ u) t g cap n (xs.set j u) :=
 ⟨h.bel.setCell h.lt.1 _, by rw [List.length_set]; exact h.len, (World.ownsRow.stored h.own j u).1⟩
theorem LV.ne {w wr : World} {t g cap n : Nat} {xs : List Value} (h : LV w wr t g cap n xs) {b : Nat} (hb : w.heap.size ≤ b) (hn : b ≠ g) (j : Nat) (u : Value) : LV w (wr.setCell ⟨b, j, none⟩ u) t g cap n xs :=
 ⟨h.bel.setCell hb _, h.len, World.ownsRow.kept h.own (row := some b) (by
  have hs := Fr.setCell (X := fun k => k = b) (w := wr) (p := ⟨b, j, none⟩) rfl u
  exact ⟨hs.os, hs.tape, hs.output, hs.size, fun k hk hne => hs.block k hk (fun e => hne (by rw [e]))⟩) (.inr (by simp [Value.ownBlock]; exact fun e => hn e.symm))⟩
theorem LV.kept {w wr w' : World} {t g cap n row : Nat} {xs : List Value} (h : LV w wr t g cap n xs) (hg : wr.grownBy w' (some row)) (hb : w.heap.size ≤ row) (hn : row ≠ g) : LV w w' t g cap n xs :=
 ⟨h.bel.grown hg h.bel.size (fun b e => by cases e; exact hb), h.len, World.ownsRow.kept h.own hg (.inr (by simp [Value.ownBlock]; exact fun e => hn e.symm))⟩
theorem wpList_push {P : Program} {ops : Array Oper} {rest : List Oper} {o : Oper} {a : Act} {Q : Exit → Act → World → Prop} {w wr wx : World} (hgd : o.guard = none) (s x : Operand) (t : TypeId)
 (ho : o.op = .call { callee := .builtin .append, args := #[s, x], argTypes := #[t, t] })
 (e bytes : Nat) (z : Value) (ht : P.underlying t = some (.slice e)) (hinfo : (P.info? e).map (fun i => (i.zero, i.size, i.bytes)) = some (some z, 1, bytes)) (hzs : z.cells.size = 1) (hby : bytes ≤ 8)
 (g cap n : Nat) (xs : List Value) (hs : a.eval s = .slice (some ⟨g, 0, none⟩) n cap) (h : LV w wr e g cap n xs) (hb : Below wr.heap.size wr wx) (b : Nat) (hx : a.eval x = .slice (some ⟨b, 0, none⟩) 1 1) (u : Value) (hu : wx.cell? ⟨b, 0, none⟩ = some u) (h1 : u.oneCell' = true)
 (hn : n ≤ 1048576) (hK : ∀ g' cap' w', LV w w' e g' cap' (n + 1) (xs ++ [u]) → wx.grownBy w' (some g) → (g' = g ∨ g' = wx.heap.size) → wpList P ops Q rest (a.put o.dst (.slice (some ⟨g', 0, none⟩) (n + 1) cap')) w') : wpList P ops Q (o :: rest) a wx := by
 obtain ⟨i, hi, hzz⟩ := Option.map_eq_some_iff.1 hinfo
 simp only [Prod.mk.injEq] at hzz
 obtain ⟨hz, hsz, hb8⟩ := hzz
 have hw := h.on hb
 refine wpList_append_lies wx hgd s x t ho w.heap.size e i z 1 bytes ht hi hz hsz hb8 hzs (by decide) (.slice (some ⟨g, 0, none⟩) n cap) n xs hs hw.own ⟨b, 0, none⟩ 1 1 [u] hx rfl ?_ ?_ (by decide) (by unfold maxLen; omega) ?_ hw.bel.size _ rfl ?_
 · intro j v hv
   cases j with
   | zero => simp at hv; subst hv; exact hu
   | succ j => simp at hv
 · intro v hv; simp at hv; rw [hv]; exact h1
 · have : (n + 1) * bytes ≤ (n + 1) * 8 := Nat.mul_le_mul_left _ hby
   omega
 · intro g' cap' w' r1 r2 r3 r4
   refine hK g' cap' w' ⟨hw.bel.grown r2 hw.bel.size (fun b e => by cases e; exact hw.lt.1), by rw [List.length_append, hw.len]; rfl, r1⟩ r2 ?_
   rcases r3 with r3 | r3
   · simp [Value.ownBlock] at r3; exact .inl r3.symm
   · exact .inr r3
def IV (l : List Int) : List Value := l.map (Value.int .i64)
theorem IV_app (l : List Int) (x : Int) : IV l ++ [.int .i64 x] = IV (l ++ [x]) := by unfold IV; rw [List.map_append]; rfl
theorem IV_set (l : List Int) (j : Nat) (x : Int) : (IV l).set j (.int .i64 x) = IV (l.set j x) := by unfold IV; rw [List.map_set]
theorem IV_len (l : List Int) : (IV l).length = l.length := by unfold IV; rw [List.length_map]
theorem IV_get {l : List Int} {j : Nat} (h : j < l.length) : (IV l)[j]? = some (.int .i64 (ofL l j)) := by
 unfold IV ofL
 rw [List.getElem?_map, List.getElem?_eq_getElem h, List.getD_eq_getElem?_getD, List.getElem?_eq_getElem h]
 rfl
theorem LV.flat {w wr : World} {t g cap n : Nat} {l : List Int} (h : LV w wr t g cap n (IV l)) : Flat wr (some ⟨g, 0, none⟩) (n * 1) (ofL l) := by
 intro h0
 refine ⟨g, 0, rfl, h.lt.2, fun j hj => ?_⟩
 rw [Nat.zero_add]
 have hl := h.len
 rw [IV_len] at hl
 exact h.cell (IV_get (by omega))
theorem LV.ic {w wr : World} {t g cap n : Nat} {l : List Int} (h : LV w wr t g cap n (IV l)) {j : Nat} (hj : j < n) : wr.cell? ⟨g, j, none⟩ = some (.int .i64 (ofL l j)) := by
 have hl := h.len
 rw [IV_len] at hl
 exact h.cell (IV_get (by omega))
abbrev zcInt : Value := .int .i64 0
theorem infoInt : (Tryz.prog.info? 3).map (fun i => (i.zero, i.size, i.bytes)) = some (some zcInt, 1, 8) := by kernel_rfl
def atOf (F : List Int) (x : Int) : Nat → Int
 | 0 => -1
 | k + 1 => if ofL F k = x then (k : Int) else atOf F x k
theorem atOf_bd (F : List Int) (x : Int) : ∀ k, -1 ≤ atOf F x k ∧ atOf F x k < (k : Int) ∨ k = 0 ∧ atOf F x k = -1
 | 0 => .inr ⟨rfl, rfl⟩
 | k + 1 => by
  left
  rw [atOf]
  split
  · omega
  · rcases atOf_bd F x k with h | h <;> omega
def numS (U G : Nat → Int) : Nat → List Int × List Int
 | 0 => ([], [])
 | i + 1 =>
  bif decide (U (i * 12 + 8) = 0) then ((numS U G i).1 ++ [-1], (numS U G i).2)
  else bif decide (atOf (numS U G i).2 (G i) (numS U G i).2.length < 0) then ((numS U G i).1 ++ [((numS U G i).2.length : Int)], (numS U G i).2 ++ [G i])
  else ((numS U G i).1 ++ [atOf (numS U G i).2 (G i) (numS U G i).2.length], (numS U G i).2)
theorem numS_z {U G : Nat → Int} {i : Nat} (h : U (i * 12 + 8) = 0) : numS U G (i + 1) = ((numS U G i).1 ++ [-1], (numS U G i).2) := by rw [numS, decide_eq_true h]; rfl
theorem numS_n {U G : Nat → Int} {i : Nat} (h : ¬ U (i * 12 + 8) = 0) (h2 : atOf (numS U G i).2 (G i) (numS U G i).2.length < 0) : numS U G (i + 1) = ((numS U G i).1 ++ [((numS U G i).2.length : Int)], (numS U G i).2 ++ [G i]) := by rw [numS, decide_eq_false h, decide_eq_true h2]; rfl
theorem numS_o {U G : Nat → Int} {i : Nat} (h : ¬ U (i * 12 + 8) = 0) (h2 : ¬ atOf (numS U G i).2 (G i) (numS U G i).2.length < 0) : numS U G (i + 1) = ((numS U G i).1 ++ [atOf (numS U G i).2 (G i) (numS U G i).2.length], (numS U G i).2) := by rw [numS, decide_eq_false h, decide_eq_false h2]; rfl
theorem numS_len (U G : Nat → Int) : ∀ i, (numS U G i).1.length = i ∧ (numS U G i).2.length ≤ i
 | 0 => ⟨rfl, Nat.le_refl _⟩
 | i + 1 => by
  obtain ⟨h1, h2⟩ := numS_len U G i
  by_cases h : U (i * 12 + 8) = 0
  · rw [numS_z h]; exact ⟨by rw [List.length_append, h1]; rfl, by show (numS U G i).2.length ≤ _; omega⟩
  · by_cases k : atOf (numS U G i).2 (G i) (numS U G i).2.length < 0
    · rw [numS_n h k]; exact ⟨by rw [List.length_append, h1]; rfl, by rw [List.length_append]; simp; omega⟩
    · rw [numS_o h k]; exact ⟨by rw [List.length_append, h1]; rfl, by show (numS U G i).2.length ≤ _; omega⟩
theorem l7Number_any (a : Option Addr) (n c : Nat) (U : Nat → Int) (ag : Option Addr) (cg : Nat) (G : Nat → Int) (w : World) (h : Flat w a (n * 12) U) (hn : n ≤ 1000) (hG2 : Flat w ag (n * 1) G) :
 Calls Tryz.prog 36 #[.slice a n c, .slice ag n cg] w fun e w' => ∃ g1 c1, e = .returned (.slice (some ⟨g1, 0, none⟩) n c1) ∧ LV w w' 3 g1 c1 n (IV (numS U G n).1) := by
 have hset := cset_map
 have ha : Below w.heap.size w (w.alloc (.cells #[] 3)) := (Below.refl _ _).alloc (Nat.le_refl _) _
 have L1 := LV.new (w := w) 3 (Below.refl _ w) rfl
 have L2 := LV.new (w := w) 3 ha (s := w.heap.size + 1) (by simp)
 have L1' := L1.on ((Below.refl _ _).alloc (Nat.le_refl _) (.cells #[] 3))
 go_enter Tryz.func36, Tryz.ntmps36
 go_upto_region 4 with fail
 go_loopw [5, 6, 7, 8, 9] (fun s5 s6 s7 _ _ wr => ∃ (i g1 c1 g2 c2 : Nat), i ≤ n ∧ s7 = .int .i64 (i : Int) ∧ s5 = .slice (some ⟨g1, 0, none⟩) i c1 ∧ s6 = .slice (some ⟨g2, 0, none⟩) (numS U G i).2.length c2 ∧ LV w wr 3 g1 c1 i (IV (numS U G i).1) ∧ LV w wr 3 g2 c2 (numS U G i).2.length (IV (numS U G i).2) ∧ g1 ≠ g2) (fun _ _ s7 _ _ _ => n - (intOf s7).toNat)
 case atStart => exact ⟨0, _, _, _, _, Nat.zero_le _, rfl, rfl, rfl, L1', L2, by omega⟩
 case round =>
  clear L1 L2 L1' ha
  obtain ⟨i, g1, c1, g2, c2, hi, rfl, rfl, rfl, H1, H2, hne⟩ := hrel
  obtain ⟨_, hfl⟩ := numS_len U G i
  by_cases hlt : i < n
  · have hin : (i : Int) < (n : Int) := by omega
    obtain ⟨b0, o0, e0, hbl0, hc0⟩ := (h.below H1.bel) (by omega)
    have r8 := hc0 (i * 12 + 8) (by omega)
    simp only [← Nat.add_assoc] at r8
    obtain ⟨b2, o2, e2, hbl2, hc2⟩ := (hG2.below H1.bel) (by omega)
    have rG := hc2 i (by omega)
    subst e0 e2
    by_cases hm : U (i * 12 + 8) = 0
    · have HZ : Shut (numS U G (i + 1) = ((numS U G i).1 ++ [-1], (numS U G i).2)) := numS_z hm
      have em : (U (i * 12 + 8) == 0) = true := by simp [hm]
      clear hm
      have hE : Below wr.heap.size wr (wr.alloc (Obj.cells #[.int .i64 (-1)] 3)) := (Below.refl _ _).alloc (Nat.le_refl _) _
      have hcE : (wr.alloc (Obj.cells #[.int .i64 (-1)] 3)).cell? ⟨wr.heap.size, 0, none⟩ = some (.int .i64 (-1)) := by go_simp
      have H2E := H2.on hE
      go_wp2_with (refine wpList_push rfl _ _ _ rfl 3 8 zcInt Tryz.underlying25 infoInt rfl (by decide) g1 c1 i (IV (numS U G i).1) rfl H1 hE wr.heap.size rfl (.int .i64 (-1)) hcE rfl (by omega) ?_; intro g5 c5 w5 hp5 hg5 hl5)
      have K2 := H2E.kept hg5 H1.lt.1 hne
      go_roundw
      case rel =>
       refine ⟨i + 1, g5, c5, g2, c2, by omega, by go_num, rfl, by rw [HZ.out], ?_⟩
       rw [HZ.out]
       exact ⟨by rw [← IV_app]; exact hp5, K2, by have := H2.lt; have := H1.lt; simp at hl5; omega⟩
      case measure => simp [intOf]; omega
    · have em : (U (i * 12 + 8) == 0) = false := by simp [hm]
      obtain ⟨F, hF⟩ : ∃ F, (numS U G i).2 = F := ⟨_, rfl⟩
      obtain ⟨O, hOO⟩ : ∃ O, (numS U G i).1 = O := ⟨_, rfl⟩
      obtain ⟨nf, hnf⟩ : ∃ nf, F.length = nf := ⟨_, rfl⟩
      have HN := @numS_n U G i hm
      have HO := @numS_o U G i hm
      rw [hF, hOO, hnf] at HN HO
      rw [hF, hnf] at hfl
      rw [hOO] at H1
      rw [hF, hnf] at H2 ⊢
      have HN := HN
      have HO := HO
      clear hm
      go_upto_region 10 with fail
      go_loopw [8, 9] (fun s8 s9 wq => ∃ k : Nat, k ≤ nf ∧ s9 = .int .i64 (k : Int) ∧ s8 = .int .i64 (atOf F (G i) k) ∧ LV w wq 3 g1 c1 i (IV O) ∧ LV w wq 3 g2 c2 nf (IV F)) (fun _ s9 _ => nf - (intOf s9).toNat)
      case atStart => exact ⟨0, Nat.zero_le _, rfl, rfl, H1, H2⟩
      case round =>
       clear H1 H2 r8 rG hc0 hc2
       obtain ⟨k, hk, rfl, rfl, H1, H2⟩ := hrel
       obtain ⟨b2', o2', e2', hbl2', hc2'⟩ := (hG2.below H1.bel) (by omega)
       have rG := hc2' i (by omega)
       cases e2'
       by_cases hkl : k < nf
       · have hkn : (k : Int) < (nf : Int) := by omega
         have rF := H2.ic hkl
         have HAT : Shut (atOf F (G i) (k + 1) = if ofL F k = G i then (k : Int) else atOf F (G i) k) := by show _ = _; rw [atOf]
         by_cases e : ofL F k = G i
         · have e5 : (ofL F k == G i) = true := by simp [e]
           rw [if_pos e] at HAT
           clear e
           go_upto_region 12 with fail
           refine wp_region_held_drew (S := fun w' => w'.cell? ⟨g2, k, none⟩ = some (.int .i64 (ofL F k)) ∧ w'.cell? ⟨b2, o2 + i, none⟩ = some (.int .i64 (G i))) (by kernel_rfl) ?_ (fun hHeld => ?_)
           · (try dsimp only)
             (first | (go_simp; done) | (go_keep; done))
           refine tq 0 hHeld ?_
           refine tq 1 hHeld ?_
           refine tq 2 hHeld ?_
           refine tq 3 hHeld ?_
           refine tq 4 hHeld ?_
           refine tq 5 hHeld ?_
           refine tq 6 hHeld ?_
           refine tq 7 hHeld ?_
           refine tq 8 hHeld ?_
           refine wpAnyH_done (by kernel_rfl) ?_ _
           go_wp2_with fail
           go_roundw
           case rel => exact ⟨k + 1, by omega, by go_num, by rw [HAT.out], H1.dr, H2.dr⟩
           case measure => simp [intOf]; omega
         · have e5 : (ofL F k == G i) = false := by simp [e]
           rw [if_neg e] at HAT
           clear e
           go_upto_region 12 with fail
           refine wp_region_held_drew (S := fun w' => w'.cell? ⟨g2, k, none⟩ = some (.int .i64 (ofL F k)) ∧ w'.cell? ⟨b2, o2 + i, none⟩ = some (.int .i64 (G i))) (by kernel_rfl) ?_ (fun hHeld => ?_)
           · (try dsimp only)
             (first | (go_simp; done) | (go_keep; done))
           refine tq 0 hHeld ?_
           refine tq 1 hHeld ?_
           refine tq 2 hHeld ?_
           refine tq 3 hHeld ?_
           refine tq 4 hHeld ?_
           refine tq 5 hHeld ?_
           refine tq 6 hHeld ?_
           refine tq 7 hHeld ?_
           refine tq 8 hHeld ?_
           refine wpAnyH_done (by kernel_rfl) ?_ _
           go_wp2_with fail
           go_roundw
           case rel => exact ⟨k + 1, by omega, by go_num, by rw [HAT.out], H1.dr, H2.dr⟩
           case measure => simp [intOf]; omega
       · obtain rfl : k = nf := by omega
         obtain ⟨z, hz⟩ : ∃ z, atOf F (G i) k = z := ⟨_, rfl⟩
         rw [hz] at HN HO
         rw [hz]
         by_cases hzn : z < 0
         · have HN' : Shut (numS U G (i + 1) = (O ++ [(k : Int)], F ++ [G i])) := HN hzn
           have hE : Below wr.heap.size wr (wr.alloc (Obj.cells #[.int .i64 (G i)] 3)) := (Below.refl _ _).alloc (Nat.le_refl _) _
           have hcE : (wr.alloc (Obj.cells #[.int .i64 (G i)] 3)).cell? ⟨wr.heap.size, 0, none⟩ = some (.int .i64 (G i)) := by go_simp
           have H1E := H1.on hE
           have hlt1 := H1.lt
           have hlt2 := H2.lt
           go_upto_region 17 with (refine wpList_push rfl _ _ _ rfl 3 8 zcInt Tryz.underlying25 infoInt rfl (by decide) g2 c2 k (IV F) rfl H2 hE wr.heap.size rfl (.int .i64 (G i)) hcE rfl (by omega) ?_; intro g5 c5 w5 hp5 hg5 hl5)
           have K1 := H1E.kept hg5 H2.lt.1 (fun e => hne e.symm)
           have hE6 : Below w5.heap.size w5 (w5.alloc (Obj.cells #[.int .i64 (k : Int)] 3)) := (Below.refl _ _).alloc (Nat.le_refl _) _
           have hcE6 : (w5.alloc (Obj.cells #[.int .i64 (k : Int)] 3)).cell? ⟨w5.heap.size, 0, none⟩ = some (.int .i64 (k : Int)) := by go_simp
           have hne5 : g1 ≠ g5 := by simp at hl5; omega
           have hlt5 := hp5.lt
           have H5E := hp5.on hE6
           clear hE hcE H1E hg5 hl5
           go_wp2_with (refine wpList_push rfl _ _ _ rfl 3 8 zcInt Tryz.underlying25 infoInt rfl (by decide) g1 c1 i (IV O) rfl K1 hE6 w5.heap.size rfl (.int .i64 (k : Int)) hcE6 rfl (by omega) ?_; intro g6 c6 w6 hp6 hg6 hl6)
           have K5 := H5E.kept hg6 K1.lt.1 hne5
           go_roundw
           case rel =>
            refine ⟨i + 1, g6, c6, g5, c5, by omega, by go_num, rfl, by rw [HN'.out]; simp [hnf], ?_⟩
            rw [HN'.out]
            exact ⟨by rw [← IV_app]; exact hp6, by rw [← IV_app, List.length_append, hnf]; exact K5, by have := K5.lt; have := K1.lt; simp at hl6; omega⟩
           case measure => simp [intOf]; omega
         · have HO' : Shut (numS U G (i + 1) = (O ++ [z], F)) := HO (by omega)
           have hE6 : Below wr.heap.size wr (wr.alloc (Obj.cells #[.int .i64 z] 3)) := (Below.refl _ _).alloc (Nat.le_refl _) _
           have hcE6 : (wr.alloc (Obj.cells #[.int .i64 z] 3)).cell? ⟨wr.heap.size, 0, none⟩ = some (.int .i64 z) := by go_simp
           have H2E := H2.on hE6
           go_wp2_with (refine wpList_push rfl _ _ _ rfl 3 8 zcInt Tryz.underlying25 infoInt rfl (by decide) g1 c1 i (IV O) rfl H1 hE6 wr.heap.size rfl (.int .i64 z) hcE6 rfl (by omega) ?_; intro g6 c6 w6 hp6 hg6 hl6)
           have K2 := H2E.kept hg6 H1.lt.1 hne
           go_roundw
           case rel =>
            refine ⟨i + 1, g6, c6, g2, c2, by omega, by go_num, rfl, by rw [HO'.out]; simp [hnf], ?_⟩
            rw [HO'.out]
            exact ⟨by rw [← IV_app]; exact hp6, by rw [hnf]; exact K2, by have := H2.lt; have := H1.lt; simp at hl6; omega⟩
           case measure => simp [intOf]; omega
  · obtain rfl : i = n := by omega
    go_wp2_with fail
    go_ret
    exact ⟨_, _, rfl, H1⟩
end Go.Proofs.YtalkkjhehndaoaaGreat
