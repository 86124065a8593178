/- Texts of a proof. -/
import Derived.Test.YtmnhankcbkfhaaaGreatDoorB3
import Derived.Deep.QuietTactic
import Derived.BigQuiet
import Derived.Deep.RegionWith
import Derived.Test.YtmnhankcbkfhaaaGreatDoorB5
import Derived.Test.YtmnhankcbkfhaaaGreatDoorB2
import Derived.RangeFuncBound
set_option maxHeartbeats 16000000
set_option maxRecDepth 20000
namespace Go.Proofs.YtmnhankcbkfhaaaGreatDoor
open Go.RowKit
set_option linter.unusedVariables false
set_option linter.unusedSimpArgs false
def szB (n : Int) : Bool := decide (1 ≤ n ∧ n ≤ 25600)
theorem isSize_any (n : Int) (w : World) :
 Calls Tryz.prog 148 #[.int .i64 n] w fun e w' => e = .returned (.bool (szB n)) ∧ w' = w := by
 go_enter Tryz.func148, Tryz.ntmps148
 go_wp2
 all_goals
  go_ret
  refine ⟨ret_bool ?_, rfl⟩
  unfold szB
  first | (simp; omega) | (simp; done)
def rdB (k wd h : Int) : Bool := decide (k = 1 ∧ (1 ≤ wd ∧ wd ≤ 25600) ∧ h = 0)
def bxB (k wd h : Int) : Bool := decide (k = 2 ∧ (1 ≤ wd ∧ wd ≤ 25600) ∧ (1 ≤ h ∧ h ≤ 25600))
def shB (k wd h : Int) : Bool := rdB k wd h || bxB k wd h
abbrev s3 (k wd h : Int) : Value := .agg #[.int .i64 k, .int .i64 wd, .int .i64 h]
theorem figureOf_round (wd : Int) (w : World) (h1 : 1 ≤ wd) (h2 : wd ≤ 25600) :
 Calls Tryz.prog 134 #[s3 1 wd 0] w fun e w' => e = .returned (.tuple #[.iface 214 (.agg #[.int .i64 wd]), .bool true]) ∧ Below w.heap.size w w' := by
 have hs : szB wd = true := by unfold szB; simp; omega
 go_enter Tryz.func134, Tryz.ntmps134
 go_wp2_with (go_at_call 148; refine (isSize_any _ _).mono ?_; rintro e w' ⟨rfl, rfl⟩)
 go_ret2
 exact ⟨rfl, (Below.refl _ _).alloc (Nat.le_refl _) _⟩
theorem figureOf_box (wd h : Int) (w : World) (h1 : 1 ≤ wd) (h2 : wd ≤ 25600) (h3 : 1 ≤ h) (h4 : h ≤ 25600) :
 Calls Tryz.prog 134 #[s3 2 wd h] w fun e w' => e = .returned (.tuple #[.iface 216 (.agg #[.int .i64 wd, .int .i64 h]), .bool true]) ∧ Below w.heap.size w w' := by
 have hs : szB wd = true := by unfold szB; simp; omega
 have hs2 : szB h = true := by unfold szB; simp; omega
 go_enter Tryz.func134, Tryz.ntmps134
 go_wp2_with (go_at_call 148; refine (isSize_any _ _).mono ?_; rintro e w' ⟨rfl, rfl⟩)
 go_ret2
 exact ⟨rfl, (Below.refl _ _).alloc (Nat.le_refl _) _⟩
theorem figureOf_none (k wd h : Int) (w : World) (hn : shB k wd h = false) :
 Calls Tryz.prog 134 #[s3 k wd h] w fun e w' => e = .returned (.tuple #[.nilIface, .bool false]) ∧ Below w.heap.size w w' := by
 have HN : Hid (¬ ((k = 1 ∧ (1 ≤ wd ∧ wd ≤ 25600) ∧ h = 0) ∨ (k = 2 ∧ (1 ≤ wd ∧ wd ≤ 25600) ∧ (1 ≤ h ∧ h ≤ 25600)))) := by
  unfold shB rdB bxB at hn
  simp only [Bool.or_eq_false_iff, decide_eq_false_iff_not] at hn
  rintro (h | h)
  · exact hn.1 h
  · exact hn.2 h
 clear hn
 have hsz : Hid (∀ n, szB n = true → 1 ≤ n ∧ n ≤ 25600) := by intro n hn; unfold szB at hn; simpa using hn
 go_enter Tryz.func134, Tryz.ntmps134
 go_wp2_with (go_at_call 148; refine (isSize_any _ _).mono ?_; rintro e w' ⟨rfl, rfl⟩)
 all_goals
  first
   | (go_ret2; exact ⟨rfl, (Below.refl _ _).alloc (Nat.le_refl _) _⟩)
   | (exfalso; subst k; exact HN.out (.inl ⟨rfl, hsz.out _ ‹_›, by simpa using ‹(h == 0) = true›⟩))
   | (exfalso; subst k; exact HN.out (.inr ⟨rfl, hsz.out _ ‹szB wd = true›, hsz.out _ ‹szB h = true›⟩))
theorem shapeOk_any (k wd h : Int) (w : World) :
 Calls Tryz.prog 109 #[s3 k wd h] w fun e w' => e = .returned (.bool (shB k wd h)) ∧ Below w.heap.size w w' := by
 by_cases hr : rdB k wd h = true
 · have e : shB k wd h = true := by unfold shB; rw [hr]; rfl
   have E : Hid (shB k wd h = true) := e
   clear e
   unfold rdB at hr
   obtain ⟨rfl, ⟨h1, h2⟩, rfl⟩ := of_decide_eq_true hr
   clear hr
   go_enter Tryz.func109, Tryz.ntmps109
   go_wp2_with (go_at_call 134; refine (figureOf_round _ _ h1 h2).mono ?_; rintro e w1 ⟨rfl, hb1⟩)
   go_ret
   exact ⟨ret_bool E.out.symm, ((Below.refl _ _).alloc (Nat.le_refl _) _).trans (hb1.mono (by simp))⟩
 · by_cases hb : bxB k wd h = true
   · have e : shB k wd h = true := by unfold shB; rw [hb]; simp
     have E : Hid (shB k wd h = true) := e
     clear e hr
     unfold bxB at hb
     obtain ⟨rfl, ⟨h1, h2⟩, h3, h4⟩ := of_decide_eq_true hb
     clear hb
     go_enter Tryz.func109, Tryz.ntmps109
     go_wp2_with (go_at_call 134; refine (figureOf_box _ _ _ h1 h2 h3 h4).mono ?_; rintro e w1 ⟨rfl, hb1⟩)
     go_ret
     exact ⟨ret_bool E.out.symm, ((Below.refl _ _).alloc (Nat.le_refl _) _).trans (hb1.mono (by simp))⟩
   · have e : shB k wd h = false := by unfold shB; simp [hr, hb]
     have E : Hid (shB k wd h = false) := e
     clear e hr hb
     go_enter Tryz.func109, Tryz.ntmps109
     go_wp2_with (go_at_call 134; refine (figureOf_none _ _ _ _ E.out).mono ?_; rintro e w1 ⟨rfl, hb1⟩)
     go_ret
     exact ⟨ret_bool E.out.symm, ((Below.refl _ _).alloc (Nat.le_refl _) _).trans (hb1.mono (by simp))⟩
theorem sShapeOk_any (k wd h : Int) (w : World) :
 Calls Tryz.prog 43 #[s3 k wd h] w fun e w' => e = .returned (.bool (shB k wd h)) ∧ Below w.heap.size w w' := by
 go_enter Tryz.func43, Tryz.ntmps43
 go_wp2_with (go_at_call 15; refine (l1In_any _ _ _ _).mono ?_; rintro e w' ⟨rfl, rfl⟩)
 all_goals
  go_ret
  refine ⟨ret_bool ?_, (Below.refl _ _).alloc (Nat.le_refl _) _⟩
  unfold shB rdB bxB
  first | (simp [*]; done) | (simp at *; subst k; simp [*]; done) | (simp at *; subst k; simp [*]; rfl) | (simp at *; subst k; simp; omega) | (simp at *; simp [*]; done)
theorem toShape_any (k wd h : Int) (w : World) :
 Calls Tryz.prog 34 #[s3 k wd h] w fun e w' => e = .returned (s3 k wd h) ∧ Below w.heap.size w w' := by
 have hset := cset_map
 go_enter Tryz.func34, Tryz.ntmps34
 go_wp2
 exact bodyPost_ret (v := s3 k wd h) (by simp [results, Tryz.results34, go_sem, *]) rfl ⟨rfl, by repeat (first | exact Below.refl _ _ | refine Below.setCell ?_ (by first | omega | (simp; done) | (simp; omega)) _ | refine Below.alloc ?_ (by first | omega | (simp; done) | (simp; omega)) _)⟩
def ptB (a b c d x y : Int) : Bool := decide ((a ≤ x ∧ x ≤ c) ∧ (b ≤ y ∧ y ≤ d))
theorem l3Meets_any (a b c d r s t u : Int) (w : World) :
 Calls Tryz.prog 101 #[b4 a b c d, b4 r s t u] w fun e w' => e = .returned (.bool (leB a b t u && leB r s c d)) ∧ Below w.heap.size w w' := by
 have hset := cset_map
 go_enter Tryz.func101, Tryz.ntmps101
 go_wp2
 all_goals
  go_ret
  refine ⟨ret_bool ?_, bel_a⟩
  unfold leB
  first | (simp [*]; done) | (simp at *; omega) | (simp [*]; omega)
theorem l3Point_any (a b c d x y : Int) (w : World) :
 Calls Tryz.prog 102 #[b4 a b c d, vv x y] w fun e w' => e = .returned (.bool (ptB a b c d x y)) ∧ Below w.heap.size w w' := by
 have hset := cset_map
 go_enter Tryz.func102, Tryz.ntmps102
 go_wp2_with (go_at_call 15; refine (l1In_any _ _ _ _).mono ?_; rintro e w' ⟨rfl, rfl⟩)
 all_goals
  go_ret
  refine ⟨ret_bool ?_, bel_a⟩
  unfold ptB
  first | (simp [*]; done) | (simp at *; omega) | (simp [*]; omega)
theorem unit_any (x y : Int) (w : World) (hx : -1000000000 ≤ x ∧ x ≤ 1000000000) (hy : -1000000000 ≤ y ∧ y ≤ 1000000000) :
 Calls Tryz.prog 180 #[vv x y] w fun e w' => e = .returned (vv (ux x y) (uy x y)) ∧ Below w.heap.size w w' := by
 have hl := vl_bd x y
 by_cases h0 : vl x y = 0
 · have e1 : ux x y = 0 := if_pos h0
   have e2 : uy x y = 256 := if_pos h0
   have hset := cset_map
   go_enter Tryz.func180, Tryz.ntmps180
   go_wp2_with (go_at_call 181; refine (length_any _ _ _ (by omega) (by omega)).mono ?_; rintro e w6 ⟨rfl, hb6⟩; obtain ⟨hc6, hf6⟩ := bcell hb6; have hz6 := hb6.size; (try simp at hz6); have hq6x0a : w.heap.size < w6.heap.size := (by omega); have hq6x1a : w.heap.size + 1 < w6.heap.size := (by omega))
   exact bodyPost_ret (v := vv 0 256) (by simp [results, Tryz.results180, go_sem, *]) rfl ⟨by rw [e1, e2], bel_a⟩
 · have e1 : ux x y = (x * 256).tdiv (vl x y) := if_neg h0
   have e2 : uy x y = (y * 256).tdiv (vl x y) := if_neg h0
   have t1 := w64 (n := (x * 256).tdiv (vl x y)) (by have := tdiv_bd (x := x * 256) (B := 256000000000) (vl x y) (by omega); omega)
   have t2 := w64 (n := (y * 256).tdiv (vl x y)) (by have := tdiv_bd (x := y * 256) (B := 256000000000) (vl x y) (by omega); omega)
   have s1 := i64w (n := (x * 256).tdiv (vl x y)) (by have := tdiv_bd (x := x * 256) (B := 256000000000) (vl x y) (by omega); omega)
   have s2 := i64w (n := (y * 256).tdiv (vl x y)) (by have := tdiv_bd (x := y * 256) (B := 256000000000) (vl x y) (by omega); omega)
   have E1 : Hid (ux x y = (x * 256).tdiv (vl x y)) := e1
   have E2 : Hid (uy x y = (y * 256).tdiv (vl x y)) := e2
   clear e1 e2
   have hset := cset_map
   go_enter Tryz.func180, Tryz.ntmps180
   go_wp2_with (go_at_call 181; refine (length_any _ _ _ (by omega) (by omega)).mono ?_; rintro e w6 ⟨rfl, hb6⟩; obtain ⟨hc6, hf6⟩ := bcell hb6; have hz6 := hb6.size; (try simp at hz6); have hq6x0a : w.heap.size < w6.heap.size := (by omega); have hq6x1a : w.heap.size + 1 < w6.heap.size := (by omega))
   go_region
   all_goals
    go_wp2
    exact bodyPost_ret (v := vv ((x * 256).tdiv (vl x y)) ((y * 256).tdiv (vl x y))) (by simp [results, Tryz.results180, go_sem, *]) rfl ⟨by rw [E1.out, E2.out], bel_a⟩
end Go.Proofs.YtmnhankcbkfhaaaGreatDoor
namespace Go.Proofs.YtmnhankcbkfhaaaGreatDoor
open Go.RowKit
set_option linter.unusedVariables false
structure Kx (B H : Nat) (A A' : World) : Prop where
 below : Below B A A'
 cells : ∀ (k : Nat) (o : Obj), A.heap[k]? = some o → o.isCells = true → H ≤ k → A'.heap[k]? = some o
structure Kc (B H : Nat) (A A' : World) : Prop where
 others : KeepsFrom B A A'
 band : ∀ (k : Nat) (o : Obj), B ≤ k → k < H → A.heap[k]? = some o → o.isCells = true → A'.heap[k]? = some o
theorem Kx.refl (B H : Nat) (A : World) : Kx B H A A := ⟨Below.refl _ _, fun _ _ h _ _ => h⟩
theorem Kx.trans {B H : Nat} {X Y Z : World} (h : Kx B H X Y) (k : Kx B H Y Z) : Kx B H X Z := ⟨h.below.trans k.below, fun i o hi ho hH => k.cells i o (h.cells i o hi ho hH) ho hH⟩
theorem Kx.size {B H : Nat} {X Y : World} (h : Kx B H X Y) : X.heap.size ≤ Y.heap.size := h.below.size
theorem Kx.sm {B H B' : Nat} {X Y Z : World} (h : Kx B H X Y) (k : Sm B' Y Z) (hB : B ≤ B') : Kx B H X Z := ⟨h.below.trans (k.below.mono hB), fun i o hi ho hH => k.cells i o (h.cells i o hi ho hH) ho⟩
theorem Kx.of_sm {B H B' : Nat} {X Y : World} (k : Sm B' X Y) (hB : B ≤ B') : Kx B H X Y := (Kx.refl B H X).sm k hB
theorem Kx.fr {B H : Nat} {X Y Z : World} {T : Nat → Prop} (h : Kx B H X Y) (k : Fr T Y Z) (hT : ∀ b, T b → B ≤ b ∧ (b < H ∨ X.heap.size ≤ b)) (hB : B ≤ X.heap.size) : Kx B H X Z :=
 ⟨h.below.trans (k.below (Nat.le_trans hB h.size) (fun b e => (hT b e).1)), fun i o hi ho hH => by
  have hl : i < X.heap.size := (Array.getElem?_eq_some_iff.1 hi).1
  exact (k.block i (Nat.lt_of_lt_of_le hl h.size) (fun e => by have := (hT i e).2; omega)).trans (h.cells i o hi ho hH)⟩
theorem Kx.of_below {B H : Nat} {X Y : World} (k : Below X.heap.size X Y) (hB : B ≤ X.heap.size) : Kx B H X Y :=
 ⟨k.mono hB, fun i o hi _ _ => (k.block i (Array.getElem?_eq_some_iff.1 hi).1).trans hi⟩
theorem Kc.refl (B H : Nat) (A : World) : Kc B H A A := ⟨KeepsFrom.refl _ _, fun _ _ _ _ h _ => h⟩
theorem Kc.trans {B H : Nat} {X Y Z : World} (h : Kc B H X Y) (k : Kc B H Y Z) : Kc B H X Z := ⟨h.others.trans k.others, fun i o a b c d => k.band i o a b (h.band i o a b c d) d⟩
theorem Kc.fr {B H : Nat} {X Y : World} {T : Nat → Prop} (k : Fr T X Y) (hT : ∀ b, T b → b < B ∨ H ≤ b) : Kc B H X Y :=
 ⟨k.keeps B, fun i o hB hH hi ho => (k.block i (Array.getElem?_eq_some_iff.1 hi).1 (fun e => by have := hT i e; omega)).trans hi⟩
theorem Kc.of_below {B H : Nat} {X Y : World} (k : Below X.heap.size X Y) : Kc B H X Y := Kc.fr (T := fun _ => False) (Fr.of_below k) (fun _ h => h.elim)
theorem Kc.putObj {B H l : Nat} {X : World} (o : Obj) (h : l < B) : Kc B H X (X.putObj l o) :=
 ⟨⟨by simp [World.putObj], fun k x hk hx _ => (World.putObj_heap_other (by omega)).trans hx⟩, fun k x hB _ hx _ => (World.putObj_heap_other (by omega)).trans hx⟩
theorem Kc.cell {B H : Nat} {X Y : World} (h : Kc B H X Y) {p : Addr} {v : Value} (hc : X.cell? p = some v) (h1 : B ≤ p.block) (h2 : p.block < H) : Y.cell? p = some v := by
 obtain ⟨o, ho, hx⟩ := isCells_of_cell hc
 exact (World.cell?_of_block ((h.band _ _ h1 h2 ho hx).trans ho.symm)).trans hc
def ItG (P : Program) (gf : Nat) (bound : Array Value) (Col : World → Prop) (E : Nat → Nat → Array Value → World → Prop) (nn : Nat) (w : World) : Prop :=
 ∀ (l : Nat) (J : Nat → Nat → World → Prop) (W : World), Below w.heap.size w W →
  (∀ H k A A', J H k A → Kx W.heap.size H A A' → J H k A') → (∀ H k A, J H k A → Col A) →
  (∀ W0, Below W.heap.size W W0 → J W0.heap.size 0 W0) →
  (∀ H k A args, J H k A → k < nn → E H k args A → YieldAt Fence.wide 0 P l args A fun e A' => e = .returned (.bool true) ∧ J H (k + 1) A' ∧ Kc W.heap.size H A A') →
  CallsIn Fence.wide 0 P gf (bound ++ #[.func (.yield l) #[] #[]]) W fun e A => (∃ v, e = .returned v) ∧ ∃ H, J H nn A
theorem yield_roundG {P : Program} {ps : Array Tmp} {assign body : Code} {a : Act} {B l dl : Nat} {fn : FuncId} {args : Array Value} (hps : args.size = ps.size)
 {I' : World → Prop} (hI' : ∀ A r o, I' A → A.heap[l]? = some (.loop r) → I' (A.putObj l (.loop o))) {Hh : World → Prop} (hH : ∀ A B', Hh A → KeepsFrom B A B' → Hh B') (hHp : ∀ A o, Hh A → Hh (A.putObj l o))
 {rec : LoopState → Option Code → Loop} (hrec : rec = fun st pe => { state := st, pending := pe, fn, tmps := a.tmps, params := ps, assign, body, defers := dl }) (hBl : B ≤ l)
 {W : World} (hl : W.heap[l]? = some (.loop (rec .ready none))) (hh : Hh W)
 (hround : assign.wpIn (Fence.wide.inRound l) 0 P (Exit.then (fun a₁ W₁ => KeepsFrom B W W₁ ∧ ∀ W₂, Sm B W₁ W₂ → (∀ B' H', l < B' → Kc B' H' W₁ W₂) → (∃ r, W₂.heap[l]? = some (.loop r)) → body.wpIn (Fence.wide.inRound l) 0 P (rdPost B I' (fun _ _ => False) W₂) a₁ W₂) (fun _ _ _ => False))
   { tmps := (ps.zip args).foldl (fun t (p, v) => t.setIfInBounds p v) a.tmps, defers := [] } W) :
 YieldAt Fence.wide 0 P l args W fun e W' => e = .returned (.bool true) ∧ I' W' ∧ W'.heap[l]? = some (.loop (rec .ready none)) ∧ Hh W' := by
 have hy := run_yield (P := P) (args := args) hl (by rw [hrec]; exact hps)
 rw [hrec] at hy
 refine ⟨fn, _, assign, body, hy, roundIn_of_wpIn trivial (wpIn_mono hround ?_)⟩
 intro e a₁ W₁ q
 cases e with
 | normal =>
  obtain ⟨hk1, hb⟩ := q
  have hl1 := hk1.same _ _ hBl hl rfl
  have hh1 := hH _ _ hh hk1
  refine ⟨_, run_beginRound hl1 (by rw [hrec]), ?_⟩
  have hlt : l < W₁.heap.size := (Array.getElem?_eq_some_iff.1 hl1).1
  have hl2 : (W₁.putObj l (.loop { rec .ready none with state := .busy })).heap[l]? = some (.loop { rec .ready none with state := .busy }) := World.putObj_heap_same hlt
  refine wpIn_mono (hb _ (Sm.putObj _ hl1 rfl hBl) (fun B' H' h => Kc.putObj _ h) ⟨_, hl2⟩) ?_
  rintro e a3 W3 hp
  cases e with
  | normal =>
   obtain ⟨hk3, hi3⟩ := hp
   have hl3 := hk3.same _ _ hBl hl2 rfl
   have hr := run_endRound (P := P) none hl3
   have hr' : (Instr.endRound l none).run P W3 = .ok (.bool true) (W3.putObj l (.loop (rec .ready none))) := by rw [hrec] at hr ⊢; exact hr
   exact ⟨_, _, hr', rfl, hI' _ _ _ hi3 hl3, World.putObj_heap_same (Array.getElem?_eq_some_iff.1 hl3).1, hHp _ _ (hH _ _ (hHp _ _ hh1) hk3)⟩
  | ret => exact hp.2.elim
  | exit id => exact hp.2.elim
  | goto t => exact hp.2.elim
  | panic ch => exact hp.elim
  | outgrown => exact hp.elim
 | exit id => exact q.elim
 | goto t => exact q.elim
 | ret => exact q.elim
 | panic ch => exact q.elim
 | outgrown => exact q.elim
theorem wp_range_outG {P : Program} {g : Operand} {ps : Array Tmp} {assign body : Code} {Q : Exit → Act → World → Prop} {a : Act} {w : World} {gf : Nat} {bound : Array Value}
 (hg : a.eval g = .func (.func gf) bound #[]) (eg : ∀ args w, (callFunc gf args).run P w = .ok (.enter gf args) w)
 {Col : World → Prop} {E : Nat → Nat → Array Value → World → Prop} {nn : Nat} (hit : ItG P gf bound Col E nn w) (hps : ∀ H k args A, E H k args A → args.size = ps.size)
 (I : Nat → Nat → World → Prop) (hI : ∀ H k A B, I H k A → Kx (w.heap.size + 2) H A B → I H k B) (hIs : ∀ H k A B, I H k A → Sm w.heap.size A B → I H k B) (hcol : ∀ H k A, I H k A → Col A)
 (h0 : ∀ W0, Below w.heap.size w W0 → w.heap.size + 2 ≤ W0.heap.size → I W0.heap.size 0 W0)
 (hround : ∀ l H k W args, w.heap.size ≤ l → l < w.heap.size + 2 → w.heap.size + 2 ≤ W.heap.size → I H k W → k < nn → E H k args W →
   assign.wpIn (Fence.wide.inRound l) 0 P (Exit.then (fun a₁ W₁ => KeepsFrom w.heap.size W W₁ ∧ ∀ W₂, Sm w.heap.size W₁ W₂ → (∀ B' H', l < B' → Kc B' H' W₁ W₂) → (∃ r, W₂.heap[l]? = some (.loop r)) →
    body.wpIn (Fence.wide.inRound l) 0 P (rdPost w.heap.size (fun W' => I H (k + 1) W' ∧ Kc (w.heap.size + 2) H W W') (fun _ _ => False) W₂) a₁ W₂) (fun _ _ _ => False))
   { tmps := (ps.zip args).foldl (fun t (p, v) => t.setIfInBounds p v) a.tmps, defers := [] } W)
 (hdone : ∀ (D H : Nat) (W : World), w.heap.size ≤ D → I H nn W → W.heap[D]? = some (.deferred (some [])) → Q .normal { a with defers := { target := .collected D, args := #[] } :: a.defers } W) :
 (Code.rangeFunc g ps assign body).wp P Q a w := by
 refine wpIn_wide.1 (wpIn_rangeFunc (n := 0) ?_)
 intro fn _
 obtain ⟨rec, hrec⟩ : ∃ rec : LoopState → Option Code → Loop, rec = fun st pe => { state := st, pending := pe, fn, tmps := a.tmps, params := ps, assign, body, defers := w.heap.size } := ⟨_, rfl⟩
 obtain ⟨W1, hW1⟩ : ∃ W1, (w.alloc (.deferred (some []))).alloc (.loop (rec .ready none)) = W1 := ⟨_, rfl⟩
 have hb1 : Below w.heap.size w W1 := by rw [← hW1]; exact ((Below.refl _ w).alloc (Nat.le_refl _) _).alloc (by simp) _
 have hz1 : W1.heap.size = w.heap.size + 2 := by rw [← hW1]; simp
 have hL1 : W1.heap[w.heap.size + 1]? = some (.loop (rec .ready none)) := by
  rw [← hW1]; have := World.alloc_heap_new (w.alloc (.deferred (some []))) (.loop (rec .ready none)); rwa [World.size_alloc] at this
 have hK1 : W1.heap[w.heap.size]? = some (.deferred (some [])) := by
  rw [← hW1]; exact (Below.heap_alloc _ _ _ (by simp)).trans (World.alloc_heap_new w _)
 refine ⟨w.heap.size + 1, [{ target := .collected w.heap.size, args := #[] }], W1, { target := .fn (.func gf) #[], args := bound ++ #[.func (.yield (w.heap.size + 1)) #[] #[]] }, W1, gf,
  bound ++ #[.func (.yield (w.heap.size + 1)) #[] #[]], W1, ?_, ?_, fun _ _ => trivial, ?_, (fun e => by cases e), ?_⟩
 · rw [← hW1, hrec]; exact run_enterLoop_outer _ _ _ _ _
 · simp only [resolve, hg]
   simp [go_sem]
 · simp [invoke, go_sem, eg]
 · refine (hit (w.heap.size + 1)
    (fun H k W => I H k W ∧ W.heap[w.heap.size + 1]? = some (.loop (rec .ready none)) ∧ W.heap[w.heap.size]? = some (.deferred (some [])) ∧ w.heap.size + 2 ≤ W.heap.size)
    W1 hb1 ?_ ?_ ?_ ?_).mono ?_
   · rintro H k A B ⟨h1, h2, h3, h4⟩ hb
     rw [hz1] at hb
     exact ⟨hI _ _ _ _ h1 hb, (hb.below.block _ (by omega)).trans h2, (hb.below.block _ (by omega)).trans h3, Nat.le_trans h4 hb.size⟩
   · rintro H k A ⟨h1, _⟩
     exact hcol _ _ _ h1
   · intro W0 hb
     exact ⟨h0 W0 (hb1.trans (hb.mono (by omega))) (by have := hb.size; omega), (hb.block _ (by omega)).trans hL1, (hb.block _ (by omega)).trans hK1, by have := hb.size; omega⟩
   · rintro H k W args ⟨h1, h2, h3, h4⟩ hk hE
     rw [hz1]
     refine (yield_roundG (P := P) (ps := ps) (assign := assign) (body := body) (a := a) (B := w.heap.size) (l := w.heap.size + 1) (dl := w.heap.size) (fn := fn) (args := args) (hps _ _ _ _ hE)
      (I' := fun W' => I H (k + 1) W' ∧ Kc (w.heap.size + 2) H W W') (fun A r o h hl => ⟨hIs _ _ _ _ h.1 (Sm.putObj _ hl rfl (by omega)), h.2.trans (Kc.putObj _ (by omega))⟩)
      (Hh := fun W => W.heap[w.heap.size]? = some (.deferred (some [])) ∧ w.heap.size + 2 ≤ W.heap.size) (fun A B h hk => ⟨hk.same _ _ (Nat.le_refl _) h.1 rfl, Nat.le_trans h.2 hk.size⟩) (fun A o h => ⟨(World.putObj_heap_other (by omega)).trans h.1, by simpa [World.putObj] using h.2⟩) hrec (by omega) h2 ⟨h3, h4⟩
      (hround _ H k W args (by omega) (by omega) h4 h1 hk hE)).mono ?_
     rintro e W' ⟨e1, ⟨h1, hc⟩, h2, h3, h4⟩
     exact ⟨e1, ⟨h1, h2, h3, h4⟩, hc⟩
   · rintro e W2 ⟨⟨v, rfl⟩, H, hi, hl, hk, _⟩
     exact ⟨none, _, by have := run_endLoop (P := P) hl (by rw [hrec]; simp); rw [hrec] at this; exact this, hdone _ H _ (Nat.le_refl _) (hIs _ _ _ _ hi (Sm.putObj _ hl rfl (by omega))) ((World.putObj_heap_other (by omega)).trans hk)⟩
end Go.Proofs.YtmnhankcbkfhaaaGreatDoor
