/- Texts of a proof. -/
import Derived.Test.YtalkkjhehndaoaaGreatB28
import Derived.Test.YtalkkjhehndaoaaGreatDrawB3k
import Derived.Deep.RegionHeld3
import Derived.Deep.DeepCutAuto
import Derived.Test.YtalkkjhehndaoaaGreatB3
import Derived.Test.YtalkkjhehndaoaaGreatB4
import Derived.RangeFuncBound
import Derived.Test.YtalkkjhehndaoaaGreatB10
set_option maxHeartbeats 16000000
set_option maxRecDepth 20000
namespace Go.Proofs.YtalkkjhehndaoaaGreat
open Go.RowKit
set_option linter.unusedVariables false
set_option linter.unusedSimpArgs false
def LN (n : Nat) (U : Nat → Int) : Prop := n ≤ 13 ∧ ∀ k, k < n → BN (fun j => U (k * 12 + j))
theorem LN.of {n : Nat} {U : Nat → Int} (h : Bods n U) : LN n U := ⟨by have := h.le; omega, fun k hk => bn_of (h.ok k hk)⟩
theorem LN.put {n : Nat} {U V : Nat → Int} {j : Nat} (h : LN n U) (hV : BN V) : LN n (putRow U j V) := by
 refine ⟨h.1, fun k hk i hi => ?_⟩
 unfold putRow
 by_cases e : j * 12 ≤ k * 12 + i ∧ k * 12 + i < j * 12 + 12
 · have : j = k := by omega
   subst this
   simp only [e, and_self, if_true, Nat.add_sub_cancel_left]
   exact hV i hi
 · simp only [e, if_false]; exact h.2 k hk i hi
theorem LN.push {n : Nat} {U V : Nat → Int} (h : LN n U) (hn : n ≤ 12) (hV : BN V) : LN (n + 1) (cat (n * 12) U V) := by
 refine ⟨by omega, fun k hk i hi => ?_⟩
 unfold cat
 by_cases e : k = n
 · subst e
   simp only [show ¬ k * 12 + i < k * 12 by omega, if_false, Nat.add_sub_cancel_left]
   exact hV i hi
 · simp only [show k * 12 + i < n * 12 by omega, if_true]
   exact h.2 k (by omega) i hi
theorem Dg.row {w wr : World} {rb p n g c : Nat} {U : Nat → Int} (h : Dg w wr rb p (.slice (some ⟨g, 0, none⟩) n c) n U []) {w' : World} {U' : Nat → Int} (hs : Fr (fun b => b = g) wr w') (hq : OwnL w' w.heap.size 34 12 (.slice (some ⟨g, 0, none⟩) n c) n U') : Dg w w' rb p (.slice (some ⟨g, 0, none⟩) n c) n U' [] := by
 have hg := (h.own.lt g rfl).1
 have hsz := h.bl.but.size
 have hB : Below w.heap.size wr w' := hs.below hsz (fun k e => by omega)
 exact ⟨⟨h.bl.rs.upto hB h.bl.lo, ⟨hB.os.trans h.bl.but.os, hB.tape.trans h.bl.but.tape, hB.output.trans h.bl.but.output, Nat.le_trans hsz hB.size, fun k hk hn => (hB.block k hk).trans (h.bl.but.block k hk hn)⟩, h.bl.lo, fun x hx => by cases hx⟩, hq, fun x hx => by cases hx⟩
theorem l11AnyBodies_k (rb p : Nat) (w : World) (hs0 : RS w rb p) (hp : p ≤ 500000) :
 Calls Tryz.prog 16 #[.pointer (some ⟨rb, 0, none⟩)] w fun e w' => ∃ (a : Option Addr) (n c : Nat) (U : Nat → Int), e = .returned (.slice a n c) ∧ LN n U ∧ Dg w w' rb (p + 40000) (.slice a n c) n U [] := by
 have hlt := hs0.lt
 have hset := cset_map
 go_enter Tryz.func16, Tryz.ntmps16
 go_upto_region 1 with fail
 go_cut [3] (fun s3 wc => ∃ (a : Option Addr) (n c : Nat) (U : Nat → Int), s3 = (.slice a n c) ∧ Bods n U ∧ Dg w wc rb (p + 30000) (.slice a n c) n U [])
 case first =>
  go_wp2_with (go_at_call 29; refine (l11Bodies_k rb p _ hs0 (by omega)).mono ?_; rintro e w1 ⟨a, n, c, U, rfl, hB, hD⟩)
  go_meet
  exact ⟨a, n, c, U, rfl, hB, hD⟩
 case rest =>
 obtain ⟨a, n, c, U, rfl, hB, hD⟩ := hcut
 have hn12 := hB.le
 have hL := LN.of hB
 by_cases hn0 : n = 0
 · have e1 : ((n : Int) == 0) = true := by simp [hn0]
   clear hn0
   go_wp2_with fail
   go_ret
   first | exact ⟨_, _, _, _, rfl, hL, hD.mono (by omega)⟩ | exact ⟨_, _, _, rfl, _, hL, hD.mono (by omega)⟩
 · have e1 : ((n : Int) == 0) = false := by simp [hn0]
   have hn1 : (1 : Int) ≤ (n : Int) := by omega
   have hn1' : 0 < n := by omega
   go_upto_region 4 with fail
   go_cut [4] (fun s4 wc => ∃ k : Nat, s4 = .int .i64 (k : Int) ∧ k < n ∧ Dg w wc rb (p + 30001) (.slice a n c) n U [])
   case first =>
    go_wp2_with (go_at_call 30; refine (pick_s rb (p + 30000) _ _ (by exact hD.bl.rs) (by omega) (by omega) (by omega)).mono ?_; rintro e w2 ⟨v2, rfl, va2, vb2, hr2⟩)
    go_meet
    exact ⟨v2.toNat, by rw [Int.toNat_of_nonneg va2], by omega, hD.call hr2⟩
   case rest =>
   clear hD
   obtain ⟨k, rfl, hk, hD⟩ := hcut
   go_upto_region 5 with fail
   go_cut [16] (fun s16 wc => ∃ v : Int, s16 = .int .i64 v ∧ Dg w wc rb (p + 30002) (.slice a n c) n U [])
   case first =>
    go_wp2_with (go_at_call 30; refine (pick_s rb (p + 30001) _ _ (by exact hD.bl.rs) (by omega) (by omega) (by omega)).mono ?_; rintro e w3 ⟨v3, rfl, va3, vb3, hr3⟩)
    go_meet
    exact ⟨_, rfl, hD.call hr3⟩
   case rest =>
   clear hD
   obtain ⟨v, rfl, hD⟩ := hcut
   obtain ⟨g, rfl, hg1, hg2⟩ := hD.own.loc hn1'
   have hki : (k : Int) < (n : Int) := by omega
   by_cases e0 : v = 0
   · have e2 : (v == 0) = true := by simp [e0]
     clear e0
     go_upto_region 10 with (go_at_call 31; refine (l11AnyBody_s rb (p + 30002) _ (by exact hD.bl.rs) (by omega)).mono ?_; rintro e w4 ⟨V, rfl, hV, hr4⟩; have hD4 := hD.call hr4; have umf := hD4.own.fro; (have um0 := hD4.own.cellq (q := k * 12) (by omega)); (have um1 := hD4.own.cellq (q := k * 12 + 1) (by omega)); (have um2 := hD4.own.cellq (q := k * 12 + 2) (by omega)); (have um3 := hD4.own.cellq (q := k * 12 + 3) (by omega)); (have um4 := hD4.own.cellq (q := k * 12 + 4) (by omega)); (have um5 := hD4.own.cellq (q := k * 12 + 5) (by omega)); (have um6 := hD4.own.cellq (q := k * 12 + 6) (by omega)); (have um7 := hD4.own.cellq (q := k * 12 + 7) (by omega)); (have um8 := hD4.own.cellq (q := k * 12 + 8) (by omega)); (have um9 := hD4.own.cellq (q := k * 12 + 9) (by omega)); (have um10 := hD4.own.cellq (q := k * 12 + 10) (by omega)); (have um11 := hD4.own.cellq (q := k * 12 + 11) (by omega)))
     have hq := put12 hD4.own hk V
     have hD5 := hD4.row (putFr (w4 := w4) (g := g) (p := k) V) hq
     clear umf um0 um1 um2 um3 um4 um5 um6 um7 um8 um9 um10 um11 hD hD4
     generalize ((((((((((((w4.setCell ⟨g, k * 12, none⟩ (.int .i64 (V 0))).setCell ⟨g, k * 12 + 1, none⟩ (.int .i64 (V 1))).setCell ⟨g, k * 12 + 2, none⟩ (.int .i64 (V 2))).setCell ⟨g, k * 12 + 3, none⟩ (.int .i64 (V 3))).setCell ⟨g, k * 12 + 4, none⟩ (.int .i64 (V 4))).setCell ⟨g, k * 12 + 5, none⟩ (.int .i64 (V 5))).setCell ⟨g, k * 12 + 6, none⟩ (.int .i64 (V 6))).setCell ⟨g, k * 12 + 7, none⟩ (.int .i64 (V 7))).setCell ⟨g, k * 12 + 8, none⟩ (.int .i64 (V 8))).setCell ⟨g, k * 12 + 9, none⟩ (.int .i64 (V 9))).setCell ⟨g, k * 12 + 10, none⟩ (.int .i64 (V 10))).setCell ⟨g, k * 12 + 11, none⟩ (.int .i64 (V 11))) = w9 at hD5 ⊢
     go_wp2_with fail
     go_ret
     first | exact ⟨_, _, _, _, rfl, hL.put hV, hD5.mono (by omega)⟩ | exact ⟨_, _, _, rfl, _, hL.put hV, hD5.mono (by omega)⟩
   · have e2 : (v == 0) = false := by simp [e0]
     by_cases e3 : v = 1
     · have e4 : (v == 1) = true := by simp [e3]
       clear e0 e3
       have hV : BN (fun i => U i) := fun j hj => by have := hL.2 0 hn1' j hj; simpa using this
       have u0 : wc.cell? ⟨g, 0, none⟩ = some (.int .i64 (U 0)) := by have := hD.own.cellq (q := 0) (by omega); exact this
       have u1 : wc.cell? ⟨g, 1, none⟩ = some (.int .i64 (U 1)) := by have := hD.own.cellq (q := 1) (by omega); exact this
       have u2 : wc.cell? ⟨g, 2, none⟩ = some (.int .i64 (U 2)) := by have := hD.own.cellq (q := 2) (by omega); exact this
       have u3 : wc.cell? ⟨g, 3, none⟩ = some (.int .i64 (U 3)) := by have := hD.own.cellq (q := 3) (by omega); exact this
       have u4 : wc.cell? ⟨g, 4, none⟩ = some (.int .i64 (U 4)) := by have := hD.own.cellq (q := 4) (by omega); exact this
       have u5 : wc.cell? ⟨g, 5, none⟩ = some (.int .i64 (U 5)) := by have := hD.own.cellq (q := 5) (by omega); exact this
       have u6 : wc.cell? ⟨g, 6, none⟩ = some (.int .i64 (U 6)) := by have := hD.own.cellq (q := 6) (by omega); exact this
       have u7 : wc.cell? ⟨g, 7, none⟩ = some (.int .i64 (U 7)) := by have := hD.own.cellq (q := 7) (by omega); exact this
       have u8 : wc.cell? ⟨g, 8, none⟩ = some (.int .i64 (U 8)) := by have := hD.own.cellq (q := 8) (by omega); exact this
       have u9 : wc.cell? ⟨g, 9, none⟩ = some (.int .i64 (U 9)) := by have := hD.own.cellq (q := 9) (by omega); exact this
       have u10 : wc.cell? ⟨g, 10, none⟩ = some (.int .i64 (U 10)) := by have := hD.own.cellq (q := 10) (by omega); exact this
       have u11 : wc.cell? ⟨g, 11, none⟩ = some (.int .i64 (U 11)) := by have := hD.own.cellq (q := 11) (by omega); exact this
       have hF : Flat (wc.alloc (Obj.cells #[.int .i64 (U 0), .int .i64 (U 1), .int .i64 (U 2), .int .i64 (U 3), .int .i64 (U 4), .int .i64 (U 5), .int .i64 (U 6), .int .i64 (U 7), .int .i64 (U 8), .int .i64 (U 9), .int .i64 (U 10), .int .i64 (U 11)] 34)) (some ⟨wc.heap.size, 0, none⟩) (1 * 12) (fun i => U i) := by
        intro _
        refine ⟨wc.heap.size, 0, rfl, by simp, fun i hi => ?_⟩
        rw [Nat.zero_add]
        rcases (show i = 0 ∨ i = 1 ∨ i = 2 ∨ i = 3 ∨ i = 4 ∨ i = 5 ∨ i = 6 ∨ i = 7 ∨ i = 8 ∨ i = 9 ∨ i = 10 ∨ i = 11 by omega) with rfl | rfl | rfl | rfl | rfl | rfl | rfl | rfl | rfl | rfl | rfl | rfl <;> go_simp
       have hE : Below wc.heap.size wc (wc.alloc (Obj.cells #[.int .i64 (U 0), .int .i64 (U 1), .int .i64 (U 2), .int .i64 (U 3), .int .i64 (U 4), .int .i64 (U 5), .int .i64 (U 6), .int .i64 (U 7), .int .i64 (U 8), .int .i64 (U 9), .int .i64 (U 10), .int .i64 (U 11)] 34)) := balloc _ _
       have hDE := hD.calb hE
       have hsz5 := hDE.bl.but.size
       go_upto_region 10 with (refine wpList_app rfl _ _ _ rfl w.heap.size 34 12 96 zcBody Tryz.underlying23 infoItBody rfl (by decide) (.slice (some ⟨g, 0, none⟩) n c) n U rfl hDE.own (some ⟨wc.heap.size, 0, none⟩) 1 1 (fun i => U i) rfl hF (by unfold maxLen; omega) (by omega) hsz5 ?_; intro a5 c5 w5 ho5 hg5)
       have hD5 := hDE.grown hg5 ho5
       go_wp2_with fail
       go_ret
       first | exact ⟨_, _, _, _, rfl, hL.push hn12 hV, hD5.mono (by omega)⟩ | exact ⟨_, _, _, rfl, _, hL.push hn12 hV, hD5.mono (by omega)⟩
     · have e4 : (v == 1) = false := by simp [e3]
       clear e0 e3
       go_wp2_with fail
       go_ret
       first | exact ⟨_, _, _, _, rfl, hL, hD.mono (by omega)⟩ | exact ⟨_, _, _, rfl, _, hL, hD.mono (by omega)⟩
end Go.Proofs.YtalkkjhehndaoaaGreat
namespace Go.Proofs.YtalkkjhehndaoaaGreat
open Go.RowKit
set_option linter.unusedVariables false
structure Kx (B H : Nat) (A A' : World) : Prop where
 below : Below B A A'
 cells : ∀ (k : Nat) (o : Obj), A.heap[k]? = some o → o.isCells = true → H ≤ k → A'.heap[k]? = some o
structure Kc (B H : Nat) (A A' : World) : Prop where
 others : KeepsFrom B A A'
 band : ∀ (k : Nat) (o : Obj), B ≤ k → k < H → A.heap[k]? = some o → o.isCells = true → A'.heap[k]? = some o
theorem Kx.refl (B H : Nat) (A : World) : Kx B H A A := ⟨Below.refl _ _, fun _ _ h _ _ => h⟩
theorem Kx.trans {B H : Nat} {X Y Z : World} (h : Kx B H X Y) (k : Kx B H Y Z) : Kx B H X Z := ⟨h.below.trans k.below, fun i o hi ho hH => k.cells i o (h.cells i o hi ho hH) ho hH⟩
theorem Kx.size {B H : Nat} {X Y : World} (h : Kx B H X Y) : X.heap.size ≤ Y.heap.size := h.below.size
theorem Kx.sm {B H B' : Nat} {X Y Z : World} (h : Kx B H X Y) (k : Sm B' Y Z) (hB : B ≤ B') : Kx B H X Z := ⟨h.below.trans (k.below.mono hB), fun i o hi ho hH => k.cells i o (h.cells i o hi ho hH) ho⟩
theorem Kx.of_sm {B H B' : Nat} {X Y : World} (k : Sm B' X Y) (hB : B ≤ B') : Kx B H X Y := (Kx.refl B H X).sm k hB
theorem Kx.fr {B H : Nat} {X Y Z : World} {T : Nat → Prop} (h : Kx B H X Y) (k : Fr T Y Z) (hT : ∀ b, T b → B ≤ b ∧ (b < H ∨ X.heap.size ≤ b)) (hB : B ≤ X.heap.size) : Kx B H X Z :=
 ⟨h.below.trans (k.below (Nat.le_trans hB h.size) (fun b e => (hT b e).1)), fun i o hi ho hH => by
  have hl : i < X.heap.size := (Array.getElem?_eq_some_iff.1 hi).1
  exact (k.block i (Nat.lt_of_lt_of_le hl h.size) (fun e => by have := (hT i e).2; omega)).trans (h.cells i o hi ho hH)⟩
theorem Kx.of_below {B H : Nat} {X Y : World} (k : Below X.heap.size X Y) (hB : B ≤ X.heap.size) : Kx B H X Y :=
 ⟨k.mono hB, fun i o hi _ _ => (k.block i (Array.getElem?_eq_some_iff.1 hi).1).trans hi⟩
theorem Kc.refl (B H : Nat) (A : World) : Kc B H A A := ⟨KeepsFrom.refl _ _, fun _ _ _ _ h _ => h⟩
theorem Kc.trans {B H : Nat} {X Y Z : World} (h : Kc B H X Y) (k : Kc B H Y Z) : Kc B H X Z := ⟨h.others.trans k.others, fun i o a b c d => k.band i o a b (h.band i o a b c d) d⟩
theorem Kc.fr {B H : Nat} {X Y : World} {T : Nat → Prop} (k : Fr T X Y) (hT : ∀ b, T b → b < B ∨ H ≤ b) : Kc B H X Y :=
 ⟨k.keeps B, fun i o hB hH hi ho => (k.block i (Array.getElem?_eq_some_iff.1 hi).1 (fun e => by have := hT i e; omega)).trans hi⟩
theorem Kc.of_below {B H : Nat} {X Y : World} (k : Below X.heap.size X Y) : Kc B H X Y := Kc.fr (T := fun _ => False) (Fr.of_below k) (fun _ h => h.elim)
theorem Kc.putObj {B H l : Nat} {X : World} (o : Obj) (h : l < B) : Kc B H X (X.putObj l o) :=
 ⟨⟨by simp [World.putObj], fun k x hk hx _ => (World.putObj_heap_other (by omega)).trans hx⟩, fun k x hB _ hx _ => (World.putObj_heap_other (by omega)).trans hx⟩
theorem Kc.cell {B H : Nat} {X Y : World} (h : Kc B H X Y) {p : Addr} {v : Value} (hc : X.cell? p = some v) (h1 : B ≤ p.block) (h2 : p.block < H) : Y.cell? p = some v := by
 obtain ⟨o, ho, hx⟩ := isCells_of_cell hc
 exact (World.cell?_of_block ((h.band _ _ h1 h2 ho hx).trans ho.symm)).trans hc
def ItG (P : Program) (gf : Nat) (bound : Array Value) (Col : World → Prop) (E : Nat → Nat → Array Value → World → Prop) (nn : Nat) (w : World) : Prop :=
 ∀ (l : Nat) (J : Nat → Nat → World → Prop) (W : World), Below w.heap.size w W →
  (∀ H k A A', J H k A → Kx W.heap.size H A A' → J H k A') → (∀ H k A, J H k A → Col A) →
  (∀ W0, Below W.heap.size W W0 → J W0.heap.size 0 W0) →
  (∀ H k A args, J H k A → k < nn → E H k args A → YieldAt Fence.wide 0 P l args A fun e A' => e = .returned (.bool true) ∧ J H (k + 1) A' ∧ Kc W.heap.size H A A') →
  CallsIn Fence.wide 0 P gf (bound ++ #[.func (.yield l) #[] #[]]) W fun e A => (∃ v, e = .returned v) ∧ ∃ H, J H nn A
theorem yield_roundG {P : Program} {ps : Array Tmp} {assign body : Code} {a : Act} {B l dl : Nat} {fn : FuncId} {args : Array Value} (hps : args.size = ps.size)
 {I' : World → Prop} (hI' : ∀ A r o, I' A → A.heap[l]? = some (.loop r) → I' (A.putObj l (.loop o))) {Hh : World → Prop} (hH : ∀ A B', Hh A → KeepsFrom B A B' → Hh B') (hHp : ∀ A o, Hh A → Hh (A.putObj l o))
 {rec : LoopState → Option Code → Loop} (hrec : rec = fun st pe => { state := st, pending := pe, fn, tmps := a.tmps, params := ps, assign, body, defers := dl }) (hBl : B ≤ l)
 {W : World} (hl : W.heap[l]? = some (.loop (rec .ready none))) (hh : Hh W)
 (hround : assign.wpIn (Fence.wide.inRound l) 0 P (Exit.then (fun a₁ W₁ => KeepsFrom B W W₁ ∧ ∀ W₂, Sm B W₁ W₂ → (∀ B' H', l < B' → Kc B' H' W₁ W₂) → (∃ r, W₂.heap[l]? = some (.loop r)) → body.wpIn (Fence.wide.inRound l) 0 P (rdPost B I' (fun _ _ => False) W₂) a₁ W₂) (fun _ _ _ => False))
   { tmps := (ps.zip args).foldl (fun t (p, v) => t.setIfInBounds p v) a.tmps, defers := [] } W) :
 YieldAt Fence.wide 0 P l args W fun e W' => e = .returned (.bool true) ∧ I' W' ∧ W'.heap[l]? = some (.loop (rec .ready none)) ∧ Hh W' := by
 have hy := run_yield (P := P) (args := args) hl (by rw [hrec]; exact hps)
 rw [hrec] at hy
 refine ⟨fn, _, assign, body, hy, roundIn_of_wpIn trivial (wpIn_mono hround ?_)⟩
 intro e a₁ W₁ q
 cases e with
 | normal =>
  obtain ⟨hk1, hb⟩ := q
  have hl1 := hk1.same _ _ hBl hl rfl
  have hh1 := hH _ _ hh hk1
  refine ⟨_, run_beginRound hl1 (by rw [hrec]), ?_⟩
  have hlt : l < W₁.heap.size := (Array.getElem?_eq_some_iff.1 hl1).1
  have hl2 : (W₁.putObj l (.loop { rec .ready none with state := .busy })).heap[l]? = some (.loop { rec .ready none with state := .busy }) := World.putObj_heap_same hlt
  refine wpIn_mono (hb _ (Sm.putObj _ hl1 rfl hBl) (fun B' H' h => Kc.putObj _ h) ⟨_, hl2⟩) ?_
  rintro e a3 W3 hp
  cases e with
  | normal =>
   obtain ⟨hk3, hi3⟩ := hp
   have hl3 := hk3.same _ _ hBl hl2 rfl
   have hr := run_endRound (P := P) none hl3
   have hr' : (Instr.endRound l none).run P W3 = .ok (.bool true) (W3.putObj l (.loop (rec .ready none))) := by rw [hrec] at hr ⊢; exact hr
   exact ⟨_, _, hr', rfl, hI' _ _ _ hi3 hl3, World.putObj_heap_same (Array.getElem?_eq_some_iff.1 hl3).1, hHp _ _ (hH _ _ (hHp _ _ hh1) hk3)⟩
  | ret => exact hp.2.elim
  | exit id => exact hp.2.elim
  | goto t => exact hp.2.elim
  | panic ch => exact hp.elim
  | outgrown => exact hp.elim
 | exit id => exact q.elim
 | goto t => exact q.elim
 | ret => exact q.elim
 | panic ch => exact q.elim
 | outgrown => exact q.elim
theorem wp_range_outG {P : Program} {g : Operand} {ps : Array Tmp} {assign body : Code} {Q : Exit → Act → World → Prop} {a : Act} {w : World} {gf : Nat} {bound : Array Value}
 (hg : a.eval g = .func (.func gf) bound #[]) (eg : ∀ args w, (callFunc gf args).run P w = .ok (.enter gf args) w)
 {Col : World → Prop} {E : Nat → Nat → Array Value → World → Prop} {nn : Nat} (hit : ItG P gf bound Col E nn w) (hps : ∀ H k args A, E H k args A → args.size = ps.size)
 (I : Nat → Nat → World → Prop) (hI : ∀ H k A B, I H k A → Kx (w.heap.size + 2) H A B → I H k B) (hIs : ∀ H k A B, I H k A → Sm w.heap.size A B → I H k B) (hcol : ∀ H k A, I H k A → Col A)
 (h0 : ∀ W0, Below w.heap.size w W0 → w.heap.size + 2 ≤ W0.heap.size → I W0.heap.size 0 W0)
 (hround : ∀ l H k W args, w.heap.size ≤ l → l < w.heap.size + 2 → w.heap.size + 2 ≤ W.heap.size → I H k W → k < nn → E H k args W →
   assign.wpIn (Fence.wide.inRound l) 0 P (Exit.then (fun a₁ W₁ => KeepsFrom w.heap.size W W₁ ∧ ∀ W₂, Sm w.heap.size W₁ W₂ → (∀ B' H', l < B' → Kc B' H' W₁ W₂) → (∃ r, W₂.heap[l]? = some (.loop r)) →
    body.wpIn (Fence.wide.inRound l) 0 P (rdPost w.heap.size (fun W' => I H (k + 1) W' ∧ Kc (w.heap.size + 2) H W W') (fun _ _ => False) W₂) a₁ W₂) (fun _ _ _ => False))
   { tmps := (ps.zip args).foldl (fun t (p, v) => t.setIfInBounds p v) a.tmps, defers := [] } W)
 (hdone : ∀ (D H : Nat) (W : World), w.heap.size ≤ D → I H nn W → W.heap[D]? = some (.deferred (some [])) → Q .normal { a with defers := { target := .collected D, args := #[] } :: a.defers } W) :
 (Code.rangeFunc g ps assign body).wp P Q a w := by
 refine wpIn_wide.1 (wpIn_rangeFunc (n := 0) ?_)
 intro fn _
 obtain ⟨rec, hrec⟩ : ∃ rec : LoopState → Option Code → Loop, rec = fun st pe => { state := st, pending := pe, fn, tmps := a.tmps, params := ps, assign, body, defers := w.heap.size } := ⟨_, rfl⟩
 obtain ⟨W1, hW1⟩ : ∃ W1, (w.alloc (.deferred (some []))).alloc (.loop (rec .ready none)) = W1 := ⟨_, rfl⟩
 have hb1 : Below w.heap.size w W1 := by rw [← hW1]; exact ((Below.refl _ w).alloc (Nat.le_refl _) _).alloc (by simp) _
 have hz1 : W1.heap.size = w.heap.size + 2 := by rw [← hW1]; simp
 have hL1 : W1.heap[w.heap.size + 1]? = some (.loop (rec .ready none)) := by
  rw [← hW1]; have := World.alloc_heap_new (w.alloc (.deferred (some []))) (.loop (rec .ready none)); rwa [World.size_alloc] at this
 have hK1 : W1.heap[w.heap.size]? = some (.deferred (some [])) := by
  rw [← hW1]; exact (Below.heap_alloc _ _ _ (by simp)).trans (World.alloc_heap_new w _)
 refine ⟨w.heap.size + 1, [{ target := .collected w.heap.size, args := #[] }], W1, { target := .fn (.func gf) #[], args := bound ++ #[.func (.yield (w.heap.size + 1)) #[] #[]] }, W1, gf,
  bound ++ #[.func (.yield (w.heap.size + 1)) #[] #[]], W1, ?_, ?_, fun _ _ => trivial, ?_, (fun e => by cases e), ?_⟩
 · rw [← hW1, hrec]; exact run_enterLoop_outer _ _ _ _ _
 · simp only [resolve, hg]
   simp [go_sem]
 · simp [invoke, go_sem, eg]
 · refine (hit (w.heap.size + 1)
    (fun H k W => I H k W ∧ W.heap[w.heap.size + 1]? = some (.loop (rec .ready none)) ∧ W.heap[w.heap.size]? = some (.deferred (some [])) ∧ w.heap.size + 2 ≤ W.heap.size)
    W1 hb1 ?_ ?_ ?_ ?_).mono ?_
   · rintro H k A B ⟨h1, h2, h3, h4⟩ hb
     rw [hz1] at hb
     exact ⟨hI _ _ _ _ h1 hb, (hb.below.block _ (by omega)).trans h2, (hb.below.block _ (by omega)).trans h3, Nat.le_trans h4 hb.size⟩
   · rintro H k A ⟨h1, _⟩
     exact hcol _ _ _ h1
   · intro W0 hb
     exact ⟨h0 W0 (hb1.trans (hb.mono (by omega))) (by have := hb.size; omega), (hb.block _ (by omega)).trans hL1, (hb.block _ (by omega)).trans hK1, by have := hb.size; omega⟩
   · rintro H k W args ⟨h1, h2, h3, h4⟩ hk hE
     rw [hz1]
     refine (yield_roundG (P := P) (ps := ps) (assign := assign) (body := body) (a := a) (B := w.heap.size) (l := w.heap.size + 1) (dl := w.heap.size) (fn := fn) (args := args) (hps _ _ _ _ hE)
      (I' := fun W' => I H (k + 1) W' ∧ Kc (w.heap.size + 2) H W W') (fun A r o h hl => ⟨hIs _ _ _ _ h.1 (Sm.putObj _ hl rfl (by omega)), h.2.trans (Kc.putObj _ (by omega))⟩)
      (Hh := fun W => W.heap[w.heap.size]? = some (.deferred (some [])) ∧ w.heap.size + 2 ≤ W.heap.size) (fun A B h hk => ⟨hk.same _ _ (Nat.le_refl _) h.1 rfl, Nat.le_trans h.2 hk.size⟩) (fun A o h => ⟨(World.putObj_heap_other (by omega)).trans h.1, by simpa [World.putObj] using h.2⟩) hrec (by omega) h2 ⟨h3, h4⟩
      (hround _ H k W args (by omega) (by omega) h4 h1 hk hE)).mono ?_
     rintro e W' ⟨e1, ⟨h1, hc⟩, h2, h3, h4⟩
     exact ⟨e1, ⟨h1, h2, h3, h4⟩, hc⟩
   · rintro e W2 ⟨⟨v, rfl⟩, H, hi, hl, hk, _⟩
     exact ⟨none, _, by have := run_endLoop (P := P) hl (by rw [hrec]; simp); rw [hrec] at this; exact this, hdone _ H _ (Nat.le_refl _) (hIs _ _ _ _ hi (Sm.putObj _ hl rfl (by omega))) ((World.putObj_heap_other (by omega)).trans hk)⟩
end Go.Proofs.YtalkkjhehndaoaaGreat
namespace Go.Proofs.YtalkkjhehndaoaaGreat
open Go.RowKit
set_option linter.unusedVariables false
set_option linter.unusedSimpArgs false
def rootF (F : Nat → Nat) (i : Nat) : Nat := if h : F i < i then rootF F (F i) else i
termination_by i
theorem root_lt {F : Nat → Nat} {i : Nat} (h : F i < i) : rootF F i = rootF F (F i) := by rw [rootF, dif_pos h]
theorem root_self {F : Nat → Nat} {i : Nat} (h : ¬ F i < i) : rootF F i = i := by rw [rootF, dif_neg h]
theorem root_step {F : Nat → Nat} (le : ∀ i, F i ≤ i) (i : Nat) : rootF F (F i) = rootF F i := by
 by_cases h : F i < i
 · rw [root_lt h]
 · have e : F i = i := by have := le i; omega
   rw [e]
theorem root_le (F : Nat → Nat) : ∀ i, rootF F i ≤ i := by
 intro i
 induction i using Nat.strongRecOn with
 | ind i ih =>
  by_cases h : F i < i
  · rw [root_lt h]; exact Nat.le_trans (ih _ h) (Nat.le_of_lt h)
  · rw [root_self h]; exact Nat.le_refl _
theorem root_top (F : Nat → Nat) : ∀ i, ¬ F (rootF F i) < rootF F i := by
 intro i
 induction i using Nat.strongRecOn with
 | ind i ih =>
  by_cases h : F i < i
  · rw [root_lt h]; exact ih _ h
  · rw [root_self h]; exact h
def setF (F : Nat → Nat) (p v : Nat) : Nat → Nat := fun j => if j = p then v else F j
theorem setF_at (F : Nat → Nat) (p v : Nat) : setF F p v p = v := if_pos rfl
theorem setF_ne {F : Nat → Nat} {p v j : Nat} (h : j ≠ p) : setF F p v j = F j := if_neg h
theorem setF_le {F : Nat → Nat} {p v : Nat} (le : ∀ i, F i ≤ i) (hv : v ≤ p) : ∀ i, setF F p v i ≤ i := fun i => by
 by_cases e : i = p
 · subst e; rw [setF_at]; exact hv
 · rw [setF_ne e]; exact le i
theorem root_half {F : Nat → Nat} (le : ∀ i, F i ≤ i) (p : Nat) : ∀ j, rootF (setF F p (F (F p))) j = rootF F j := by
 intro j
 induction j using Nat.strongRecOn with
 | ind j ih =>
  by_cases e : j = p
  · subst e
    have l1 := le j
    have l2 := le (F j)
    by_cases h : F (F j) < j
    · rw [root_lt (by rw [setF_at]; exact h), setF_at, ih _ h, root_step le, root_step le]
    · rw [root_self (by rw [setF_at]; exact h), root_self (by omega)]
  · by_cases h : F j < j
    · rw [root_lt (by rw [setF_ne e]; exact h), setF_ne e, ih _ h, root_step le]
    · rw [root_self (by rw [setF_ne e]; exact h), root_self h]
theorem root_join {F : Nat → Nat} {m M : Nat} (hm : ¬ F m < m) (hM : ¬ F M < M) (hmM : m ≤ M) : ∀ j, rootF (setF F M m) j = if rootF F j = M then m else rootF F j := by
 intro j
 induction j using Nat.strongRecOn with
 | ind j ih =>
  by_cases e : j = M
  · subst e
    rw [root_self (F := F) hM, if_pos rfl]
    by_cases h : m < j
    · rw [root_lt (by rw [setF_at]; exact h), setF_at, root_self (by rw [setF_ne (by omega)]; exact hm)]
    · rw [root_self (by rw [setF_at]; exact h)]; omega
  · by_cases h : F j < j
    · rw [root_lt (by rw [setF_ne e]; exact h), setF_ne e, ih _ h, ← root_lt h]
    · rw [root_self (by rw [setF_ne e]; exact h), root_self h, if_neg e]
structure Uf (w : World) (ub g n c : Nat) (F : Nat → Nat) : Prop where
 hd : w.cell? ⟨ub, 0, none⟩ = some (.slice (some ⟨g, 0, none⟩) n c)
 row : ∀ i, i < n → w.cell? ⟨g, i, none⟩ = some (.int .i64 (F i : Int))
 fz : ∀ i, i < n → w.frozen? ⟨g, i, none⟩ = false
 le : ∀ i, F i ≤ i
 ne : ub ≠ g
 l1 : ub < w.heap.size
 l2 : g < w.heap.size
theorem Uf.on {w w' : World} {ub g n c : Nat} {F : Nat → Nat} (h : Uf w ub g n c F) (k : Below w.heap.size w w') : Uf w' ub g n c F :=
 ⟨(k.cell (p := ⟨ub, 0, none⟩) h.l1).trans h.hd, fun i hi => (k.cell (p := ⟨g, i, none⟩) h.l2).trans (h.row i hi), fun i hi => (k.frozen (p := ⟨g, i, none⟩) h.l2).trans (h.fz i hi), h.le, h.ne, Nat.lt_of_lt_of_le h.l1 k.size, Nat.lt_of_lt_of_le h.l2 k.size⟩
theorem Uf.set {w : World} {ub g n c : Nat} {F : Nat → Nat} (h : Uf w ub g n c F) {p v : Nat} (hp : p < n) (hv : v ≤ p) : Uf (w.setCell ⟨g, p, none⟩ (.int .i64 (v : Int))) ub g n c (setF F p v) := by
 refine ⟨?_, fun i hi => ?_, fun i hi => by rw [World.frozen?_setCell]; exact h.fz i hi, setF_le h.le hv, h.ne, by simpa using h.l1, by simpa using h.l2⟩
 · rw [cset_far (by simp; have := h.ne; omega)]; exact h.hd
 · by_cases e : i = p
   · subst e; rw [cset_map, h.row i hi, setF_at]; rfl
   · rw [cset_other (by intro q; cases q; exact e rfl), setF_ne e]; exact h.row i hi
theorem top_q (ub g n c p : Nat) (F : Nat → Nat) (w : World) (h : Uf w ub g n c F) (hp : p < n) :
 Calls Tryz.prog 46 #[.pointer (some ⟨ub, 0, none⟩), .int .i64 (p : Int)] w fun e w' => e = .returned (.int .i64 (rootF F p : Int)) ∧ (∃ F', Uf w' ub g n c F' ∧ ∀ j, rootF F' j = rootF F j) ∧ Fr (fun b => b = g) w w' := by
 have hset := cset_map
 go_enter Tryz.func46, Tryz.ntmps46
 go_upto_region 1 with fail
 go_loopw [1] (fun s1 wr => ∃ (q : Nat) (F' : Nat → Nat), s1 = .int .i64 (q : Int) ∧ q < n ∧ Uf wr ub g n c F' ∧ (∀ j, rootF F' j = rootF F j) ∧ rootF F' q = rootF F p ∧ Fr (fun b => b = g) w wr) (fun s1 _ => (intOf s1).toNat)
 case atStart => exact ⟨p, F, rfl, hp, h, fun _ => rfl, rfl, Fr.refl _ _⟩
 case round =>
  obtain ⟨q, F', rfl, hqn, hU, hall0, hrt0, hF⟩ := hrel
  have hall : Shut (∀ j, rootF F' j = rootF F j) := hall0
  have hrt : Shut (rootF F' q = rootF F p) := hrt0
  clear hall0 hrt0
  have hqi : (q : Int) < (n : Int) := by omega
  have u0 := hU.hd
  have uq := hU.row q hqn
  have uf := hU.fz q hqn
  have hle := hU.le
  by_cases e : F' q = q
  · have ee : ((F' q : Int) != (q : Int)) = false := by simp [e]
    have hv : rootF F p = q := by rw [← hrt.out, root_self (by omega)]
    clear e hrt
    go_wp2_with fail
    go_ret
    refine ⟨?_, ⟨F', hU, hall.out⟩, hF⟩
    rw [hv]
    rfl
  · have hlq : F' q < q := by have := hle q; omega
    have ee : ((F' q : Int) != (q : Int)) = true := by simp; omega
    have HH0 := root_half hle q
    have HR0 : rootF F' (F' (F' q)) = rootF F' q := by rw [root_step hle, root_step hle]
    have hr2 := hle (F' q)
    have ur := hU.row (F' q) (by omega)
    obtain ⟨s, hs⟩ : ∃ s, F' q = s := ⟨_, rfl⟩
    rw [hs] at uq ee hlq HH0 HR0 hr2 ur
    obtain ⟨r, hr⟩ : ∃ r, F' s = r := ⟨_, rfl⟩
    rw [hr] at HH0 HR0 hr2 ur
    have HH : Shut (∀ j, rootF (setF F' q r) j = rootF F j) := fun j => (HH0 j).trans (hall.out j)
    have HR : Shut (rootF (setF F' q r) r = rootF F p) := (HH0 r).trans (HR0.trans hrt.out)
    clear HH0 HR0 hall hrt e hs hr hle
    have hsi : (s : Int) < (n : Int) := by omega
    have hr2q : r ≤ q := by omega
    go_upto_region 2 with fail
    refine wp_region_held_drew (S := fun w' => w'.cell? ⟨ub, 0, none⟩ = some (.slice (some ⟨g, 0, none⟩) n c)) (by kernel_rfl) ?_ (fun hHeld => ?_)
    · (try dsimp only)
      (first | (go_simp; done) | (go_keep; done))
    refine tq 0 hHeld ?_
    refine tq 1 hHeld ?_
    refine tq 2 hHeld ?_
    refine tq 3 hHeld ?_
    refine tq 4 hHeld ?_
    refine tq 5 hHeld ?_
    refine tq 6 hHeld ?_
    refine tq 7 hHeld ?_
    refine tq 8 hHeld ?_
    refine tq 9 hHeld ?_
    refine tq 10 hHeld ?_
    refine tq 11 hHeld ?_
    refine tq 12 hHeld ?_
    refine tq 13 hHeld ?_
    refine tq 14 hHeld ?_
    refine tc 15 fun K hK => ?_
    (go_simp
     refine tr hK (fun hHeld => ?_)
     clear hK K)
    refine tq 16 hHeld ?_
    refine tc 17 fun K hK => ?_
    (go_simp
     refine tr hK (fun hHeld => ?_)
     clear hK K)
    refine tq 18 hHeld ?_
    refine tc 19 fun K hK => ?_
    (go_simp
     have hU2 := hU.set (v := r) hqn hr2q
     have hF2 := hF.trans (Fr.setCell (X := fun b => b = g) (p := ⟨g, q, none⟩) rfl (.int .i64 (r : Int)))
     clear u0 uq ur
     replace hU2 := hU2.on (Below.drew (Below.refl _ _))
     replace hF2 := hF2.drew
     generalize (wr.setCell ⟨g, q, none⟩ (.int .i64 (r : Int))).drew = w5 at hU2 hF2 ⊢
     have u0 := hU2.hd
     refine tr hK (fun hHeld => ?_)
     clear hK K)
    refine wpAnyH_done (by kernel_rfl) ?_ _
    have uq := hU2.row q hqn
    rw [setF_at] at uq
    go_wp2_with fail
    go_roundw
    case rel => exact ⟨r, _, rfl, by omega, hU2, HH.out, HR.out, hF2⟩
    case measure => simp [intOf]; omega
theorem join_q (ub g n c p q : Nat) (F : Nat → Nat) (w : World) (h : Uf w ub g n c F) (hp : p < n) (hq : q < n) :
 Calls Tryz.prog 75 #[.pointer (some ⟨ub, 0, none⟩), .int .i64 (p : Int), .int .i64 (q : Int)] w fun e w' => e = .returned (.tuple #[]) ∧ (∃ F', Uf w' ub g n c F' ∧ ∀ j, rootF F' j = if rootF F j = max (rootF F p) (rootF F q) then min (rootF F p) (rootF F q) else rootF F j) ∧ Fr (fun b => b = g) w w' := by
 have hset := cset_map
 have lp := root_le F p
 have lq := root_le F q
 go_enter Tryz.func75, Tryz.ntmps75
 go_upto_region 1 with (first
  | (have _ := hF1; go_at_call 46; refine (top_q ub g n c q F1 _ hU1 hq).mono ?_; rintro e w2 ⟨rfl, ⟨F2, hU2, hE2⟩, hF2⟩)
  | (go_at_call 46; refine (top_q ub g n c p F _ h hp).mono ?_; rintro e w1 ⟨rfl, ⟨F1, hU1, hE1⟩, hF1⟩))
 have hE : ∀ j, rootF F2 j = rootF F j := fun j => (hE2 j).trans (hE1 j)
 have hF := hF1.trans hF2
 (try rw [hE1 q])
 have hU := hU2
 obtain ⟨F', hF'⟩ : ∃ F', F2 = F' := ⟨_, rfl⟩
 rw [hF'] at hU hE
 clear hE1 hE2 hF1 hF2 hU1 hU2 hF'
 have tp : ¬ F' (rootF F p) < rootF F p := by rw [← hE p]; exact root_top F' p
 have tq' : ¬ F' (rootF F q) < rootF F q := by rw [← hE q]; exact root_top F' q
 generalize hA0 : rootF F p = A at lp tp ⊢
 generalize hB0 : rootF F q = B at lq tq' ⊢
 have hA : Shut (rootF F p = A) := hA0
 have hB : Shut (rootF F q = B) := hB0
 have HE : Shut (∀ j, rootF F' j = rootF F j) := hE
 clear hA0 hB0 hE
 have u0 := hU.hd
 have ufA := hU.fz A (by omega)
 have ufB := hU.fz B (by omega)
 by_cases hAB : A < B
 · have i1 : (A : Int) < (B : Int) := by omega
   have i2 : ¬ (B : Int) < (A : Int) := by omega
   have i3 : (B : Int) < (n : Int) := by omega
   have uB := hU.row B (by omega)
   have hJ : Shut (∀ j, rootF (setF F' B A) j = if rootF F' j = B then A else rootF F' j) := root_join (m := A) (M := B) tp tq' (by omega)
   have hmx : Shut (max A B = B ∧ min A B = A) := by show _ ∧ _; omega
   have hU2 := hU.set (p := B) (v := A) (by omega) (by omega)
   clear tp tq' lp lq
   go_wp2_with fail
   go_end0
   exact ⟨rfl, ⟨_, hU2, fun j => by rw [hJ.out j, HE.out j, hA.out, hB.out, hmx.out.1, hmx.out.2]⟩, hF.trans (Fr.setCell (X := fun b => b = g) rfl _)⟩
 · by_cases hBA : B < A
   · have i1 : (B : Int) < (A : Int) := by omega
     have i2 : ¬ (A : Int) < (B : Int) := by omega
     have i3 : (A : Int) < (n : Int) := by omega
     have uB := hU.row A (by omega)
     have hJ : Shut (∀ j, rootF (setF F' A B) j = if rootF F' j = A then B else rootF F' j) := root_join (m := B) (M := A) tq' tp (by omega)
     have hmx : Shut (max A B = A ∧ min A B = B) := by show _ ∧ _; omega
     have hU2 := hU.set (p := A) (v := B) (by omega) (by omega)
     clear tp tq' lp lq
     go_wp2_with fail
     go_end0
     exact ⟨rfl, ⟨_, hU2, fun j => by rw [hJ.out j, HE.out j, hA.out, hB.out, hmx.out.1, hmx.out.2]⟩, hF.trans (Fr.setCell (X := fun b => b = g) rfl _)⟩
   · obtain rfl : A = B := by omega
     have i2 : ¬ (A : Int) < (A : Int) := by omega
     have i3 : (A : Int) < (n : Int) := by omega
     have uB := hU.row A (by omega)
     have hJ : Shut (∀ j, rootF (setF F' A A) j = if rootF F' j = A then A else rootF F' j) := root_join (m := A) (M := A) tp tp (by omega)
     have hmx : Shut (max A A = A ∧ min A A = A) := by show _ ∧ _; omega
     have hU2 := hU.set (p := A) (v := A) (by omega) (by omega)
     clear tp tq' lp lq
     go_wp2_with fail
     go_end0
     exact ⟨rfl, ⟨_, hU2, fun j => by rw [hJ.out j, HE.out j, hA.out, hB.out, hmx.out.1, hmx.out.2]⟩, hF.trans (Fr.setCell (X := fun b => b = g) rfl _)⟩
end Go.Proofs.YtalkkjhehndaoaaGreat
