/- Texts of a proof. -/
import Derived.Test.YtalkkjhehndaoaaGreatB1
import Derived.Deep.QuietTactic
import Derived.BigQuiet
import Derived.Deep.RegionWith
import Derived.Deep.RegionHeld3
import Derived.Deep.DeepCutAuto
import Derived.LoopNIn
import Derived.LoopIn
import Derived.OwnWalkIn
import Derived.RangeFuncBound
import Derived.Shelf.Abstract
set_option maxHeartbeats 16000000
set_option maxRecDepth 20000
namespace Go.Proofs.YtalkkjhehndaoaaGreat
open Go.RowKit
set_option linter.unusedVariables false
theorem bcell {W w1 : World} (hb : Below W.heap.size W w1) : (∀ b o, b < W.heap.size → w1.cell? ⟨b, o, none⟩ = W.cell? ⟨b, o, none⟩) ∧ (∀ b o, b < W.heap.size → w1.frozen? ⟨b, o, none⟩ = W.frozen? ⟨b, o, none⟩) :=
 ⟨fun b o h => hb.cell (p := ⟨b, o, none⟩) h, fun b o h => hb.frozen (p := ⟨b, o, none⟩) h⟩
theorem blt {W w1 : World} (hb : Below W.heap.size W w1) : ∀ b, b < W.heap.size → b < w1.heap.size := fun b h => Nat.lt_of_lt_of_le h hb.size
theorem belowDrewN {B : Nat} {a w : World} (h : Below B a w) (n : Nat) : Below B a (w.drewN n) := ⟨h.os, h.tape, h.output, h.size, h.block⟩
theorem bel_a {B : Nat} {a w : World} (h : Below B a w := by repeat (first | with_reducible apply Below.refl | (with_reducible apply Below.setCell; rotate_left; focus (first | omega | (simp; done) | (simp; omega))) | (with_reducible apply Below.alloc; rotate_left; focus (first | omega | (simp; done) | (simp; omega))) | with_reducible apply Below.drew | with_reducible apply belowDrewN | (with_reducible apply Below.trans; rotate_left; with_reducible apply Below.mono; with_reducible assumption; focus (first | omega | (simp; done) | (simp; omega))))) : Below B a w := h
theorem cset_map (w : World) (a : Addr) (v : Value) : (w.setCell a v).cell? a = (w.cell? a).map fun _ => v := by
 cases h : w.cell? a with
 | some u => rw [cset_same h]; rfl
 | none =>
  simp only [World.cell?, World.setCell, Array.getElem?_modify, if_true] at *
  cases hb : w.heap[a.block]? with
  | none => simp
  | some o =>
   rw [hb] at h
   cases o with
   | cells c t fr =>
    by_cases hs : a.spot.isSome
    · simp [hs]
    · simp [hs] at h ⊢; omega
   | _ => simp
theorem i64w {n : Int} (h : -9223372036854775808 ≤ n ∧ n ≤ 9223372036854775807) : IntKind.i64.wrap n = n := by
 simp [IntKind.wrap, IntKind.bits, IntKind.signed]; omega
def vdot (x y u v : Int) : Int := fc ((fc x * fc u + fc y * fc v).tdiv 256)
def vl (x y : Int) : Int := clampZ 1000000000 (rootZ (x * x + y * y))
def ux (x y : Int) : Int := if vl x y = 0 then 0 else (x * 256).tdiv (vl x y)
def uy (x y : Int) : Int := if vl x y = 0 then 256 else (y * 256).tdiv (vl x y)
theorem vl_bd (x y : Int) : 0 ≤ vl x y ∧ vl x y ≤ 1000000000 := by
 have h := rootZ_nonneg (x * x + y * y)
 have k := clampZ_bd (l := 1000000000) (rootZ (x * x + y * y)) (by decide)
 refine ⟨?_, k.2⟩
 unfold vl clampZ; repeat' split
 all_goals omega
theorem sq_bd {x y : Int} (hx : -1000000000 ≤ x ∧ x ≤ 1000000000) (hy : -1000000000 ≤ y ∧ y ≤ 1000000000) : 0 ≤ x * x + y * y ∧ x * x + y * y ≤ 2000000000000000000 := by
 have p := mul_bd hx hx
 have q := mul_bd hy hy
 have p0 : 0 ≤ x * x := by rcases Int.le_total 0 x with h | h; exact Int.mul_nonneg h h; exact Int.mul_nonneg_of_nonpos_of_nonpos h h
 have q0 : 0 ≤ y * y := by rcases Int.le_total 0 y with h | h; exact Int.mul_nonneg h h; exact Int.mul_nonneg_of_nonpos_of_nonpos h h
 omega
abbrev vv (x y : Int) : Value := .agg #[.int .i64 x, .int .i64 y]
theorem wayOf_any (x y : Int) (w : World) :
 Calls Tryz.prog 109 #[vv x y] w fun e w' => e = .returned (vv x y) ∧ Below w.heap.size w w' := by
 have hset := cset_map
 go_enter Tryz.func109, Tryz.ntmps109
 go_wp2
 exact bodyPost_ret (v := vv x y) (by simp [results, Tryz.results109, go_sem]) rfl ⟨rfl, bel_a⟩
theorem vec_any (x y : Int) (w : World) :
 Calls Tryz.prog 73 #[vv x y] w fun e w' => e = .returned (vv x y) ∧ Below w.heap.size w w' := by
 have hset := cset_map
 go_enter Tryz.func73, Tryz.ntmps73
 go_wp2
 exact bodyPost_ret (v := vv x y) (by simp [results, Tryz.results73, go_sem]) rfl ⟨rfl, bel_a⟩
theorem plus_any (x y u v : Int) (w : World) (hx : -4000000000 ≤ x ∧ x ≤ 4000000000) (hy : -4000000000 ≤ y ∧ y ≤ 4000000000) (hu : -4000000000 ≤ u ∧ u ≤ 4000000000) (hv : -4000000000 ≤ v ∧ v ≤ 4000000000) :
 Calls Tryz.prog 141 #[vv x y, vv u v] w fun e w' => e = .returned (vv (x + u) (y + v)) ∧ Below w.heap.size w w' := by
 have hset := cset_map
 go_enter Tryz.func141, Tryz.ntmps141
 go_wp2
 exact bodyPost_ret (v := vv (x + u) (y + v)) (by simp [results, Tryz.results141, go_sem]) rfl ⟨rfl, bel_a⟩
theorem less_any (x y u v : Int) (w : World) (hx : -4000000000 ≤ x ∧ x ≤ 4000000000) (hy : -4000000000 ≤ y ∧ y ≤ 4000000000) (hu : -4000000000 ≤ u ∧ u ≤ 4000000000) (hv : -4000000000 ≤ v ∧ v ≤ 4000000000) :
 Calls Tryz.prog 119 #[vv x y, vv u v] w fun e w' => e = .returned (vv (x - u) (y - v)) ∧ Below w.heap.size w w' := by
 have hset := cset_map
 go_enter Tryz.func119, Tryz.ntmps119
 go_wp2
 exact bodyPost_ret (v := vv (x - u) (y - v)) (by simp [results, Tryz.results119, go_sem]) rfl ⟨rfl, bel_a⟩
theorem products_any (x y u v : Int) (w : World) (hx : -1500000000 ≤ x ∧ x ≤ 1500000000) (hy : -1500000000 ≤ y ∧ y ≤ 1500000000) (hu : -1500000000 ≤ u ∧ u ≤ 1500000000) (hv : -1500000000 ≤ v ∧ v ≤ 1500000000) :
 Calls Tryz.prog 131 #[vv x y, vv u v] w fun e w' => e = .returned (.int .i64 (x * u + y * v)) ∧ Below w.heap.size w w' := by
 have p := mul_bd (a := x) (b := u) (A := 1500000000) (B := 1500000000) hx hu
 have q := mul_bd (a := y) (b := v) (A := 1500000000) (B := 1500000000) hy hv
 have hset := cset_map
 go_enter Tryz.func131, Tryz.ntmps131
 go_wp2
 go_ret
 exact ⟨rfl, bel_a⟩
def vokB (x y : Int) : Bool := decide (-1000000000 ≤ x ∧ x ≤ 1000000000 ∧ -1000000000 ≤ y ∧ y ≤ 1000000000)
def inB (l x y : Int) : Bool := decide (-l ≤ x ∧ x ≤ l ∧ -l ≤ y ∧ y ≤ l)
theorem within_any (n l : Int) (w : World) (h0 : 0 ≤ l) (h1 : l ≤ 4000000000) :
 Calls Tryz.prog 89 #[.int .i64 n, .int .i64 l] w fun e w' => e = .returned (.bool (decide (-l ≤ n ∧ n ≤ l))) ∧ w' = w := by
 go_enter Tryz.func89, Tryz.ntmps89
 go_wp2
 all_goals
  go_ret
  refine ⟨ret_bool ?_, rfl⟩
  first | (simp; omega) | (simp; done)
theorem within2_any (x y l : Int) (w : World) (h0 : 0 ≤ l) (h1 : l ≤ 4000000000) :
 Calls Tryz.prog 61 #[vv x y, .int .i64 l] w fun e w' => e = .returned (.bool (inB l x y)) ∧ Below w.heap.size w w' := by
 go_enter Tryz.func61, Tryz.ntmps61
 go_wp2_with (go_at_call 89; refine (within_any _ _ _ h0 h1).mono ?_; rintro e w' ⟨rfl, rfl⟩)
 all_goals
  go_ret
  refine ⟨ret_bool ?_, bel_a⟩
  unfold inB
  first | (simp; omega) | (simp [*]; done) | (simp at *; omega)
end Go.Proofs.YtalkkjhehndaoaaGreat
namespace Go.Proofs.YtalkkjhehndaoaaGreat
open Go.RowKit
set_option linter.unusedVariables false
set_option linter.unusedSimpArgs false
abbrev bodyV (V : Nat → Int) : Value := .agg #[.int .i64 (V 0), .int .i64 (V 1), .int .i64 (V 2), .int .i64 (V 3), .int .i64 (V 4), .int .i64 (V 5), .int .i64 (V 6), .int .i64 (V 7), .int .i64 (V 8), .int .i64 (V 9), .int .i64 (V 10), .int .i64 (V 11)]
structure AddN (w wx : World) (cb n : Nat) (C : Nat → Nat → Int) (V : Nat → Int) (S : Nat → Value) (k : Nat) (S' : Nat → Value) : Prop where
 body : ∀ j, j < 12 → wx.cell? ⟨w.heap.size, j, none⟩ = some (.int .i64 (V j))
 hd : ∀ i, i < 12 → wx.cell? ⟨cb, i, none⟩ = some (S' i)
 nf : ∀ i, i < 12 → wx.frozen? ⟨cb, i, none⟩ = false
 did : ∀ i, i < k → OwnL wx cb 70 1 (S' i) (n + 1) (snoc n (C i) (V i))
 todo : ∀ i, k ≤ i → i < 12 → S' i = S i ∧ OwnL wx cb 70 1 (S i) n (C i)
 dis : ∀ i j, i < 12 → j < 12 → i ≠ j → ∀ b, (S' i).ownBlock = some b → (S' j).ownBlock ≠ some b
 ncb : ∀ i, i < 12 → ∀ b, (S' i).ownBlock = some b → b ≠ cb ∧ b ≠ w.heap.size
 fr : Fr (fun k => k = cb ∨ Xc S k) w wx
 big : w.heap.size < wx.heap.size
theorem OwnL.alloc' {w : World} {base t k n : Nat} {v : Value} {U : Nat → Int} (h : OwnL w base t k v n U) (o : Obj) : OwnL (w.alloc o).drew base t k v n U := World.ownsRow.drew (World.ownsRow.alloc h o)
theorem AddN.own {w wx : World} {cb n k : Nat} {C : Nat → Nat → Int} {V : Nat → Int} {S S' : Nat → Value} (h : AddN w wx cb n C V S k S') {i : Nat} (hi : i < 12) : ∃ m U, OwnL wx cb 70 1 (S' i) m U := by
 by_cases e : i < k
 · exact ⟨_, _, h.did i e⟩
 · obtain ⟨e1, e2⟩ := h.todo i (by omega) hi
   rw [e1]
   exact ⟨_, _, e2⟩
theorem AddN.step {w wx w1 : World} {cb n k g cap : Nat} {C : Nat → Nat → Int} {V : Nat → Int} {S S' : Nat → Value} {o : Obj} (h : AddN w wx cb n C V S k S') (hk : k < 12) (hcb : cb < w.heap.size)
 (ho : OwnL w1 cb 70 1 (.slice (some ⟨g, 0, none⟩) (n + 1) cap) (n + 1) (snoc n (C k) (V k))) (hg : (wx.alloc o).drew.grownBy w1 (S k).ownBlock) (hor : (S k).ownBlock = some g ∨ g = wx.heap.size + 1) (hlt : g < w1.heap.size) :
 w1.cell? ⟨w.heap.size, k, none⟩ = some (.int .i64 (V k)) ∧ w1.cell? ⟨cb, k, none⟩ = some (S k) ∧ w1.frozen? ⟨cb, k, none⟩ = false ∧
 AddN w (w1.setCell ⟨cb, k, none⟩ (.slice (some ⟨g, 0, none⟩) (n + 1) cap)) cb n C V S (k + 1) (fun i => if i = k then .slice (some ⟨g, 0, none⟩) (n + 1) cap else S' i) := by
 obtain ⟨es, ok⟩ := h.todo k (Nat.le_refl _) hk
 have big := h.big
 have sz : (wx.alloc o).drew.heap.size = wx.heap.size + 1 := by simp
 have hne : ∀ b, (S k).ownBlock = some b → b ≠ cb ∧ b ≠ w.heap.size := fun b hb => h.ncb k hk b (by rw [es]; exact hb)
 have hX : ∀ b, (S k).ownBlock = some b → Xc S b := fun b hb => ⟨k, hk, hb⟩
 have hblk : ∀ b, b < wx.heap.size → (S k).ownBlock ≠ some b → w1.heap[b]? = wx.heap[b]? := fun b hb hn => (hg.block b (by omega) (Ne.symm hn)).trans (Below.heap_alloc _ _ _ hb)
 have F0 : Fr (fun x => x = cb ∨ Xc S x) wx (wx.alloc o).drew := Fr.of_below (Below.drew ((Below.refl _ _).alloc (Nat.le_refl _) _))
 have F1 : Fr (fun x => x = cb ∨ Xc S x) (wx.alloc o).drew w1 := Fr.grown hg (fun b hb => .inr (hX b hb)) (OwnL.isCells (ok.alloc' o))
 have F2 : Fr (fun x => x = cb ∨ Xc S x) w1 (w1.setCell ⟨cb, k, none⟩ (.slice (some ⟨g, 0, none⟩) (n + 1) cap)) := Fr.setCell (.inl rfl) _
 have cbl : cb < wx.heap.size := by omega
 have bcb : w1.heap[cb]? = wx.heap[cb]? := hblk cb cbl (fun e => (hne cb e).1 rfl)
 have bbd : w1.heap[w.heap.size]? = wx.heap[w.heap.size]? := hblk _ big (fun e => (hne _ e).2 rfl)
 have gcb : g ≠ cb ∧ g ≠ w.heap.size := by
  rcases hor with q | q
  · exact hne g q
  · omega
 have gS : ∀ i, i < 12 → i ≠ k → (S' i).ownBlock ≠ some g := fun i hi hik e => by
  rcases hor with q | q
  · exact h.dis i k hi hk hik g e (by rw [es]; exact q)
  · obtain ⟨m, U, oo⟩ := h.own hi
    have := (oo.lt g e).2
    omega
 have keep : ∀ i, i < 12 → i ≠ k → ∀ {m U}, OwnL wx cb 70 1 (S' i) m U → OwnL (w1.setCell ⟨cb, k, none⟩ (.slice (some ⟨g, 0, none⟩) (n + 1) cap)) cb 70 1 (S' i) m U := fun i hi hik m U oo => by
  refine OwnL.frame (X := fun x => x = cb ∨ (S k).ownBlock = some x) (oo.alloc' o) ((Fr.grown hg (fun b hb => .inr hb) (OwnL.isCells (ok.alloc' o))).trans (Fr.setCell (.inl rfl) _)) (fun b hb q => ?_)
  rcases q with q | q
  · exact (h.ncb i hi b hb).1 q
  · exact h.dis i k hi hk hik b hb (by rw [es]; exact q)
 refine ⟨(World.cell?_of_block bbd).trans (h.body k hk), (World.cell?_of_block bcb).trans ((h.hd k hk).trans (by rw [es])), (World.frozen?_of_block bcb).trans (h.nf k hk), ?_⟩
 have hk1 : w1.cell? ⟨cb, k, none⟩ = some (S k) := (World.cell?_of_block bcb).trans ((h.hd k hk).trans (by rw [es]))
 refine ⟨fun j hj => ?_, fun i hi => ?_, fun i hi => ?_, fun i hi => ?_, fun i hi hi' => ?_, fun i j hi hj hij b => ?_, fun i hi b => ?_, ((h.fr.trans F0).trans F1).trans F2, ?_⟩
 · rw [cset_far (by simp; omega)]
   exact (World.cell?_of_block (a := ⟨w.heap.size, j, none⟩) bbd).trans (h.body j hj)
 · by_cases e : i = k
   · subst e
     simp only [if_pos]
     exact cset_same hk1
   · simp only [if_neg e]
     rw [cset_other (by intro q; injection q with _ q; exact e q.symm)]
     exact (World.cell?_of_block (a := ⟨cb, i, none⟩) bcb).trans (h.hd i hi)
 · rw [World.frozen?_setCell]
   exact (World.frozen?_of_block (a := ⟨cb, i, none⟩) bcb).trans (h.nf i hi)
 · by_cases e : i = k
   · subst e
     simp only [if_pos]
     refine OwnL.frame (X := fun x => x = cb) ho (Fr.setCell (X := fun x => x = cb) rfl _) (fun b hb q => ?_)
     simp only [Value.ownBlock, Option.some.injEq] at hb
     omega
   · simp only [if_neg e]
     exact keep i (by omega) e (h.did i (by omega))
 · have e : i ≠ k := by omega
   obtain ⟨q1, q2⟩ := h.todo i (by omega) hi'
   simp only [if_neg e]
   refine ⟨q1, ?_⟩
   have := keep i hi' e (m := n) (U := C i) (by rw [q1]; exact q2)
   rw [q1] at this
   exact this
 · by_cases e : i = k
   · subst e
     have e2 : ¬ j = i := Ne.symm hij
     simp only [if_pos, if_neg e2]
     intro hb
     simp only [Value.ownBlock, Option.some.injEq] at hb
     subst hb
     exact gS j hj e2
   · by_cases e2 : j = k
     · subst e2
       simp only [if_pos, if_neg e]
       intro hb q
       simp only [Value.ownBlock, Option.some.injEq] at q
       subst q
       exact gS i hi e hb
     · simp only [if_neg e, if_neg e2]
       exact h.dis i j hi hj hij b
 · by_cases e : i = k
   · subst e
     simp only [if_pos]
     intro hb
     simp only [Value.ownBlock, Option.some.injEq] at hb
     subst hb
     exact gcb
   · simp only [if_neg e]
     exact h.ncb i hi b
 · have := F1.size
   simp
   omega
theorem AddN.start {w wx : World} {cb n : Nat} {C : Nat → Nat → Int} {V : Nat → Int} {S : Nat → Value} (h : Cs w cb n C S) (hb : Below w.heap.size w wx) (hbody : ∀ j, j < 12 → wx.cell? ⟨w.heap.size, j, none⟩ = some (.int .i64 (V j))) (big : w.heap.size < wx.heap.size) : AddN w wx cb n C V S 0 S := by
 have h' := h.below hb
 exact ⟨hbody, h'.hd, h'.nf, fun i hi => absurd hi (by omega), fun i _ hi => ⟨rfl, h'.own i hi⟩, h.dis, fun i hi b hb => ⟨h.ncb i hi b hb, by have := h.xlt (b := b) ⟨i, hi, hb⟩; omega⟩, Fr.of_below hb, big⟩
def snocC (n : Nat) (C : Nat → Nat → Int) (V : Nat → Int) : Nat → Nat → Int := fun i => snoc n (C i) (V i)
theorem AddN.cs {w wx : World} {cb n : Nat} {C : Nat → Nat → Int} {V : Nat → Int} {S S' : Nat → Value} (h : AddN w wx cb n C V S 12 S') : Cs wx cb (n + 1) (snocC n C V) S' :=
 ⟨h.hd, h.nf, h.did, fun i hi b hb => (h.ncb i hi b hb).1, h.dis⟩
theorem add_any (cb n : Nat) (C : Nat → Nat → Int) (V : Nat → Int) (S : Nat → Value) (w : World) (h : Cs w cb n C S) (hn : n ≤ 1048576) :
 Calls Tryz.prog 56 #[.pointer (some ⟨cb, 0, none⟩), bodyV V] w fun e w' => e = .returned (.tuple #[]) ∧ ∃ S', Cs w' cb (n + 1) (snocC n C V) S' ∧ Fr (fun k => k = cb ∨ Xc S k) w w' := by
 have hset := cset_map
 have hcb := h.lt
 go_enter Tryz.func56, Tryz.ntmps56
 go_upto_region 1 with fail
 have h0 : AddN w (w.alloc (.cells #[.int .i64 (V 0), .int .i64 (V 1), .int .i64 (V 2), .int .i64 (V 3), .int .i64 (V 4), .int .i64 (V 5), .int .i64 (V 6), .int .i64 (V 7), .int .i64 (V 8), .int .i64 (V 9), .int .i64 (V 10), .int .i64 (V 11)] 34)) cb n C V S 0 S := AddN.start h (bel_a) (by intro j hj; rcases (show j = 0 ∨ j = 1 ∨ j = 2 ∨ j = 3 ∨ j = 4 ∨ j = 5 ∨ j = 6 ∨ j = 7 ∨ j = 8 ∨ j = 9 ∨ j = 10 ∨ j = 11 by omega) with rfl | rfl | rfl | rfl | rfl | rfl | rfl | rfl | rfl | rfl | rfl | rfl <;> go_simp) (by simp)
 clear h
 generalize (w.alloc (.cells #[.int .i64 (V 0), .int .i64 (V 1), .int .i64 (V 2), .int .i64 (V 3), .int .i64 (V 4), .int .i64 (V 5), .int .i64 (V 6), .int .i64 (V 7), .int .i64 (V 8), .int .i64 (V 9), .int .i64 (V 10), .int .i64 (V 11)] 34)) = wx0 at h0 ⊢
 have b0 := h0.body 0 (by omega)
 obtain ⟨e0, o0⟩ := h0.todo 0 (by omega) (by omega)
 have c0 := h0.hd 0 (by omega)
 rw [e0] at c0
 clear e0
 have f0 := h0.nf 0 (by omega)
 have z0 := h0.big
 have l0 : cb < wx0.heap.size := by omega
 go_cut [] (fun wc => ∃ S', AddN w wc cb n C V S 1 S')
 case first =>
  refine wp_region_held_drew (S := fun w' => w'.cell? ⟨w.heap.size, 0, none⟩ = some (.int .i64 (V 0))) (by kernel_rfl) ?_ (fun hHeld => ?_)
  · (try dsimp only)
    (first | (go_simp; done) | (go_keep; done))
  refine tq 0 hHeld ?_
  refine tq 1 hHeld ?_
  refine tq 2 hHeld ?_
  refine tq 3 hHeld ?_
  refine tq 5 hHeld ?_
  refine tq 6 hHeld ?_
  refine td 4 7 hHeld (fun hHeld => ?_)
  refine tc 8 fun K hK => ?_
  refine step_app1 (by rfl) _ _ _ (by rfl) cb 70 (.int .i64 0) Tryz.underlying71 (by kernel_rfl) (by rfl) (S 0) n (C 0) (by rfl) (o0.alloc' _) wx0.heap.size _ (V 0) (by rfl) (by go_simp) hn (by simp; omega) (wx0.heap.size + 1) (by simp) ?_
  intro g cap w1 ho hg hor hlt
  obtain ⟨qb, qc, qf, hst⟩ := AddN.step h0 (by omega) hcb ho hg hor hlt
  refine tr hK (fun hHeld => ?_) (by (try dsimp only); exact qb)
  clear hK K
  refine tq 9 hHeld ?_
  refine tq 10 hHeld ?_
  (refine tc 11 fun K hK => ?_; go_simp; refine tr hK (fun hHeld => ?_) (by (try dsimp only); exact (cset_far (by simp; omega)).trans qb); clear hK K)
  refine wpAnyH_done (by kernel_rfl) ?_ _
  go_wp2_with fail
  go_meet
  exact ⟨_, hst⟩
 case rest =>
 obtain ⟨S1, h1⟩ := hcut
 clear b0 o0 c0 f0 z0 l0 h0
 go_upto_region 2 with fail
 have b0 := h1.body 1 (by omega)
 obtain ⟨e0, o0⟩ := h1.todo 1 (by omega) (by omega)
 have c0 := h1.hd 1 (by omega)
 rw [e0] at c0
 clear e0
 have f0 := h1.nf 1 (by omega)
 have z0 := h1.big
 have l0 : cb < wc.heap.size := by omega
 go_cut [] (fun wc => ∃ S', AddN w wc cb n C V S 2 S')
 case first =>
  refine wp_region_held_drew (S := fun w' => w'.cell? ⟨w.heap.size, 1, none⟩ = some (.int .i64 (V 1))) (by kernel_rfl) ?_ (fun hHeld => ?_)
  · (try dsimp only)
    (first | (go_simp; done) | (go_keep; done))
  refine tq 0 hHeld ?_
  refine tq 1 hHeld ?_
  refine tq 2 hHeld ?_
  refine tq 3 hHeld ?_
  refine tq 5 hHeld ?_
  refine tq 6 hHeld ?_
  refine tq 7 hHeld ?_
  refine td 4 8 hHeld (fun hHeld => ?_)
  refine tc 9 fun K hK => ?_
  refine step_app1 (by rfl) _ _ _ (by rfl) cb 70 (.int .i64 0) Tryz.underlying71 (by kernel_rfl) (by rfl) (S 1) n (C 1) (by rfl) (o0.alloc' _) wc.heap.size _ (V 1) (by rfl) (by go_simp) hn (by simp; omega) (wc.heap.size + 1) (by simp) ?_
  intro g cap w1 ho hg hor hlt
  obtain ⟨qb, qc, qf, hst⟩ := AddN.step h1 (by omega) hcb ho hg hor hlt
  refine tr hK (fun hHeld => ?_) (by (try dsimp only); exact qb)
  clear hK K
  refine tq 10 hHeld ?_
  refine tq 11 hHeld ?_
  (refine tc 12 fun K hK => ?_; go_simp; refine tr hK (fun hHeld => ?_) (by (try dsimp only); exact (cset_far (by simp; omega)).trans qb); clear hK K)
  refine wpAnyH_done (by kernel_rfl) ?_ _
  go_wp2_with fail
  go_meet
  exact ⟨_, hst⟩
 case rest =>
 obtain ⟨S2, h2⟩ := hcut
 clear b0 o0 c0 f0 z0 l0 h1
 go_upto_region 3 with fail
 have b0 := h2.body 2 (by omega)
 obtain ⟨e0, o0⟩ := h2.todo 2 (by omega) (by omega)
 have c0 := h2.hd 2 (by omega)
 rw [e0] at c0
 clear e0
 have f0 := h2.nf 2 (by omega)
 have z0 := h2.big
 have l0 : cb < wc.heap.size := by omega
 go_cut [] (fun wc => ∃ S', AddN w wc cb n C V S 3 S')
 case first =>
  refine wp_region_held_drew (S := fun w' => w'.cell? ⟨w.heap.size, 2, none⟩ = some (.int .i64 (V 2))) (by kernel_rfl) ?_ (fun hHeld => ?_)
  · (try dsimp only)
    (first | (go_simp; done) | (go_keep; done))
  refine tq 0 hHeld ?_
  refine tq 1 hHeld ?_
  refine tq 2 hHeld ?_
  refine tq 3 hHeld ?_
  refine tq 5 hHeld ?_
  refine tq 6 hHeld ?_
  refine tq 7 hHeld ?_
  refine td 4 8 hHeld (fun hHeld => ?_)
  refine tc 9 fun K hK => ?_
  refine step_app1 (by rfl) _ _ _ (by rfl) cb 70 (.int .i64 0) Tryz.underlying71 (by kernel_rfl) (by rfl) (S 2) n (C 2) (by rfl) (o0.alloc' _) wc.heap.size _ (V 2) (by rfl) (by go_simp) hn (by simp; omega) (wc.heap.size + 1) (by simp) ?_
  intro g cap w1 ho hg hor hlt
  obtain ⟨qb, qc, qf, hst⟩ := AddN.step h2 (by omega) hcb ho hg hor hlt
  refine tr hK (fun hHeld => ?_) (by (try dsimp only); exact qb)
  clear hK K
  refine tq 10 hHeld ?_
  refine tq 11 hHeld ?_
  (refine tc 12 fun K hK => ?_; go_simp; refine tr hK (fun hHeld => ?_) (by (try dsimp only); exact (cset_far (by simp; omega)).trans qb); clear hK K)
  refine wpAnyH_done (by kernel_rfl) ?_ _
  go_wp2_with fail
  go_meet
  exact ⟨_, hst⟩
 case rest =>
 obtain ⟨S3, h3⟩ := hcut
 clear b0 o0 c0 f0 z0 l0 h2
 go_upto_region 4 with fail
 have b0 := h3.body 3 (by omega)
 obtain ⟨e0, o0⟩ := h3.todo 3 (by omega) (by omega)
 have c0 := h3.hd 3 (by omega)
 rw [e0] at c0
 clear e0
 have f0 := h3.nf 3 (by omega)
 have z0 := h3.big
 have l0 : cb < wc.heap.size := by omega
 go_cut [] (fun wc => ∃ S', AddN w wc cb n C V S 4 S')
 case first =>
  refine wp_region_held_drew (S := fun w' => w'.cell? ⟨w.heap.size, 3, none⟩ = some (.int .i64 (V 3))) (by kernel_rfl) ?_ (fun hHeld => ?_)
  · (try dsimp only)
    (first | (go_simp; done) | (go_keep; done))
  refine tq 0 hHeld ?_
  refine tq 1 hHeld ?_
  refine tq 2 hHeld ?_
  refine tq 3 hHeld ?_
  refine tq 5 hHeld ?_
  refine tq 6 hHeld ?_
  refine tq 7 hHeld ?_
  refine td 4 8 hHeld (fun hHeld => ?_)
  refine tc 9 fun K hK => ?_
  refine step_app1 (by rfl) _ _ _ (by rfl) cb 70 (.int .i64 0) Tryz.underlying71 (by kernel_rfl) (by rfl) (S 3) n (C 3) (by rfl) (o0.alloc' _) wc.heap.size _ (V 3) (by rfl) (by go_simp) hn (by simp; omega) (wc.heap.size + 1) (by simp) ?_
  intro g cap w1 ho hg hor hlt
  obtain ⟨qb, qc, qf, hst⟩ := AddN.step h3 (by omega) hcb ho hg hor hlt
  refine tr hK (fun hHeld => ?_) (by (try dsimp only); exact qb)
  clear hK K
  refine tq 10 hHeld ?_
  refine tq 11 hHeld ?_
  (refine tc 12 fun K hK => ?_; go_simp; refine tr hK (fun hHeld => ?_) (by (try dsimp only); exact (cset_far (by simp; omega)).trans qb); clear hK K)
  refine wpAnyH_done (by kernel_rfl) ?_ _
  go_wp2_with fail
  go_meet
  exact ⟨_, hst⟩
 case rest =>
 obtain ⟨S4, h4⟩ := hcut
 clear b0 o0 c0 f0 z0 l0 h3
 go_upto_region 5 with fail
 have b0 := h4.body 4 (by omega)
 obtain ⟨e0, o0⟩ := h4.todo 4 (by omega) (by omega)
 have c0 := h4.hd 4 (by omega)
 rw [e0] at c0
 clear e0
 have f0 := h4.nf 4 (by omega)
 have z0 := h4.big
 have l0 : cb < wc.heap.size := by omega
 go_cut [] (fun wc => ∃ S', AddN w wc cb n C V S 5 S')
 case first =>
  refine wp_region_held_drew (S := fun w' => w'.cell? ⟨w.heap.size, 4, none⟩ = some (.int .i64 (V 4))) (by kernel_rfl) ?_ (fun hHeld => ?_)
  · (try dsimp only)
    (first | (go_simp; done) | (go_keep; done))
  refine tq 0 hHeld ?_
  refine tq 1 hHeld ?_
  refine tq 2 hHeld ?_
  refine tq 3 hHeld ?_
  refine tq 5 hHeld ?_
  refine tq 6 hHeld ?_
  refine tq 7 hHeld ?_
  refine td 4 8 hHeld (fun hHeld => ?_)
  refine tc 9 fun K hK => ?_
  refine step_app1 (by rfl) _ _ _ (by rfl) cb 70 (.int .i64 0) Tryz.underlying71 (by kernel_rfl) (by rfl) (S 4) n (C 4) (by rfl) (o0.alloc' _) wc.heap.size _ (V 4) (by rfl) (by go_simp) hn (by simp; omega) (wc.heap.size + 1) (by simp) ?_
  intro g cap w1 ho hg hor hlt
  obtain ⟨qb, qc, qf, hst⟩ := AddN.step h4 (by omega) hcb ho hg hor hlt
  refine tr hK (fun hHeld => ?_) (by (try dsimp only); exact qb)
  clear hK K
  refine tq 10 hHeld ?_
  refine tq 11 hHeld ?_
  (refine tc 12 fun K hK => ?_; go_simp; refine tr hK (fun hHeld => ?_) (by (try dsimp only); exact (cset_far (by simp; omega)).trans qb); clear hK K)
  refine wpAnyH_done (by kernel_rfl) ?_ _
  go_wp2_with fail
  go_meet
  exact ⟨_, hst⟩
 case rest =>
 obtain ⟨S5, h5⟩ := hcut
 clear b0 o0 c0 f0 z0 l0 h4
 go_upto_region 6 with fail
 have b0 := h5.body 5 (by omega)
 obtain ⟨e0, o0⟩ := h5.todo 5 (by omega) (by omega)
 have c0 := h5.hd 5 (by omega)
 rw [e0] at c0
 clear e0
 have f0 := h5.nf 5 (by omega)
 have z0 := h5.big
 have l0 : cb < wc.heap.size := by omega
 go_cut [] (fun wc => ∃ S', AddN w wc cb n C V S 6 S')
 case first =>
  refine wp_region_held_drew (S := fun w' => w'.cell? ⟨w.heap.size, 5, none⟩ = some (.int .i64 (V 5))) (by kernel_rfl) ?_ (fun hHeld => ?_)
  · (try dsimp only)
    (first | (go_simp; done) | (go_keep; done))
  refine tq 0 hHeld ?_
  refine tq 1 hHeld ?_
  refine tq 2 hHeld ?_
  refine tq 3 hHeld ?_
  refine tq 5 hHeld ?_
  refine tq 6 hHeld ?_
  refine tq 7 hHeld ?_
  refine td 4 8 hHeld (fun hHeld => ?_)
  refine tc 9 fun K hK => ?_
  refine step_app1 (by rfl) _ _ _ (by rfl) cb 70 (.int .i64 0) Tryz.underlying71 (by kernel_rfl) (by rfl) (S 5) n (C 5) (by rfl) (o0.alloc' _) wc.heap.size _ (V 5) (by rfl) (by go_simp) hn (by simp; omega) (wc.heap.size + 1) (by simp) ?_
  intro g cap w1 ho hg hor hlt
  obtain ⟨qb, qc, qf, hst⟩ := AddN.step h5 (by omega) hcb ho hg hor hlt
  refine tr hK (fun hHeld => ?_) (by (try dsimp only); exact qb)
  clear hK K
  refine tq 10 hHeld ?_
  refine tq 11 hHeld ?_
  (refine tc 12 fun K hK => ?_; go_simp; refine tr hK (fun hHeld => ?_) (by (try dsimp only); exact (cset_far (by simp; omega)).trans qb); clear hK K)
  refine wpAnyH_done (by kernel_rfl) ?_ _
  go_wp2_with fail
  go_meet
  exact ⟨_, hst⟩
 case rest =>
 obtain ⟨S6, h6⟩ := hcut
 clear b0 o0 c0 f0 z0 l0 h5
 go_upto_region 7 with fail
 have b0 := h6.body 6 (by omega)
 obtain ⟨e0, o0⟩ := h6.todo 6 (by omega) (by omega)
 have c0 := h6.hd 6 (by omega)
 rw [e0] at c0
 clear e0
 have f0 := h6.nf 6 (by omega)
 have z0 := h6.big
 have l0 : cb < wc.heap.size := by omega
 go_cut [] (fun wc => ∃ S', AddN w wc cb n C V S 7 S')
 case first =>
  refine wp_region_held_drew (S := fun w' => w'.cell? ⟨w.heap.size, 6, none⟩ = some (.int .i64 (V 6))) (by kernel_rfl) ?_ (fun hHeld => ?_)
  · (try dsimp only)
    (first | (go_simp; done) | (go_keep; done))
  refine tq 0 hHeld ?_
  refine tq 1 hHeld ?_
  refine tq 2 hHeld ?_
  refine tq 3 hHeld ?_
  refine tq 5 hHeld ?_
  refine tq 6 hHeld ?_
  refine tq 7 hHeld ?_
  refine td 4 8 hHeld (fun hHeld => ?_)
  refine tc 9 fun K hK => ?_
  refine step_app1 (by rfl) _ _ _ (by rfl) cb 70 (.int .i64 0) Tryz.underlying71 (by kernel_rfl) (by rfl) (S 6) n (C 6) (by rfl) (o0.alloc' _) wc.heap.size _ (V 6) (by rfl) (by go_simp) hn (by simp; omega) (wc.heap.size + 1) (by simp) ?_
  intro g cap w1 ho hg hor hlt
  obtain ⟨qb, qc, qf, hst⟩ := AddN.step h6 (by omega) hcb ho hg hor hlt
  refine tr hK (fun hHeld => ?_) (by (try dsimp only); exact qb)
  clear hK K
  refine tq 10 hHeld ?_
  refine tq 11 hHeld ?_
  (refine tc 12 fun K hK => ?_; go_simp; refine tr hK (fun hHeld => ?_) (by (try dsimp only); exact (cset_far (by simp; omega)).trans qb); clear hK K)
  refine wpAnyH_done (by kernel_rfl) ?_ _
  go_wp2_with fail
  go_meet
  exact ⟨_, hst⟩
 case rest =>
 obtain ⟨S7, h7⟩ := hcut
 clear b0 o0 c0 f0 z0 l0 h6
 go_upto_region 8 with fail
 have b0 := h7.body 7 (by omega)
 obtain ⟨e0, o0⟩ := h7.todo 7 (by omega) (by omega)
 have c0 := h7.hd 7 (by omega)
 rw [e0] at c0
 clear e0
 have f0 := h7.nf 7 (by omega)
 have z0 := h7.big
 have l0 : cb < wc.heap.size := by omega
 go_cut [] (fun wc => ∃ S', AddN w wc cb n C V S 8 S')
 case first =>
  refine wp_region_held_drew (S := fun w' => w'.cell? ⟨w.heap.size, 7, none⟩ = some (.int .i64 (V 7))) (by kernel_rfl) ?_ (fun hHeld => ?_)
  · (try dsimp only)
    (first | (go_simp; done) | (go_keep; done))
  refine tq 0 hHeld ?_
  refine tq 1 hHeld ?_
  refine tq 2 hHeld ?_
  refine tq 3 hHeld ?_
  refine tq 5 hHeld ?_
  refine tq 6 hHeld ?_
  refine tq 7 hHeld ?_
  refine td 4 8 hHeld (fun hHeld => ?_)
  refine tc 9 fun K hK => ?_
  refine step_app1 (by rfl) _ _ _ (by rfl) cb 70 (.int .i64 0) Tryz.underlying71 (by kernel_rfl) (by rfl) (S 7) n (C 7) (by rfl) (o0.alloc' _) wc.heap.size _ (V 7) (by rfl) (by go_simp) hn (by simp; omega) (wc.heap.size + 1) (by simp) ?_
  intro g cap w1 ho hg hor hlt
  obtain ⟨qb, qc, qf, hst⟩ := AddN.step h7 (by omega) hcb ho hg hor hlt
  refine tr hK (fun hHeld => ?_) (by (try dsimp only); exact qb)
  clear hK K
  refine tq 10 hHeld ?_
  refine tq 11 hHeld ?_
  (refine tc 12 fun K hK => ?_; go_simp; refine tr hK (fun hHeld => ?_) (by (try dsimp only); exact (cset_far (by simp; omega)).trans qb); clear hK K)
  refine wpAnyH_done (by kernel_rfl) ?_ _
  go_wp2_with fail
  go_meet
  exact ⟨_, hst⟩
 case rest =>
 obtain ⟨S8, h8⟩ := hcut
 clear b0 o0 c0 f0 z0 l0 h7
 go_upto_region 9 with fail
 have b0 := h8.body 8 (by omega)
 obtain ⟨e0, o0⟩ := h8.todo 8 (by omega) (by omega)
 have c0 := h8.hd 8 (by omega)
 rw [e0] at c0
 clear e0
 have f0 := h8.nf 8 (by omega)
 have z0 := h8.big
 have l0 : cb < wc.heap.size := by omega
 go_cut [] (fun wc => ∃ S', AddN w wc cb n C V S 9 S')
 case first =>
  refine wp_region_held_drew (S := fun w' => w'.cell? ⟨w.heap.size, 8, none⟩ = some (.int .i64 (V 8))) (by kernel_rfl) ?_ (fun hHeld => ?_)
  · (try dsimp only)
    (first | (go_simp; done) | (go_keep; done))
  refine tq 0 hHeld ?_
  refine tq 1 hHeld ?_
  refine tq 2 hHeld ?_
  refine tq 3 hHeld ?_
  refine tq 5 hHeld ?_
  refine tq 6 hHeld ?_
  refine td 4 7 hHeld (fun hHeld => ?_)
  refine tc 8 fun K hK => ?_
  refine step_app1 (by rfl) _ _ _ (by rfl) cb 70 (.int .i64 0) Tryz.underlying71 (by kernel_rfl) (by rfl) (S 8) n (C 8) (by rfl) (o0.alloc' _) wc.heap.size _ (V 8) (by rfl) (by go_simp) hn (by simp; omega) (wc.heap.size + 1) (by simp) ?_
  intro g cap w1 ho hg hor hlt
  obtain ⟨qb, qc, qf, hst⟩ := AddN.step h8 (by omega) hcb ho hg hor hlt
  refine tr hK (fun hHeld => ?_) (by (try dsimp only); exact qb)
  clear hK K
  refine tq 9 hHeld ?_
  refine tq 10 hHeld ?_
  (refine tc 11 fun K hK => ?_; go_simp; refine tr hK (fun hHeld => ?_) (by (try dsimp only); exact (cset_far (by simp; omega)).trans qb); clear hK K)
  refine wpAnyH_done (by kernel_rfl) ?_ _
  go_wp2_with fail
  go_meet
  exact ⟨_, hst⟩
 case rest =>
 obtain ⟨S9, h9⟩ := hcut
 clear b0 o0 c0 f0 z0 l0 h8
 go_upto_region 10 with fail
 have b0 := h9.body 9 (by omega)
 obtain ⟨e0, o0⟩ := h9.todo 9 (by omega) (by omega)
 have c0 := h9.hd 9 (by omega)
 rw [e0] at c0
 clear e0
 have f0 := h9.nf 9 (by omega)
 have z0 := h9.big
 have l0 : cb < wc.heap.size := by omega
 go_cut [] (fun wc => ∃ S', AddN w wc cb n C V S 10 S')
 case first =>
  refine wp_region_held_drew (S := fun w' => w'.cell? ⟨w.heap.size, 9, none⟩ = some (.int .i64 (V 9))) (by kernel_rfl) ?_ (fun hHeld => ?_)
  · (try dsimp only)
    (first | (go_simp; done) | (go_keep; done))
  refine tq 0 hHeld ?_
  refine tq 1 hHeld ?_
  refine tq 2 hHeld ?_
  refine tq 3 hHeld ?_
  refine tq 5 hHeld ?_
  refine tq 6 hHeld ?_
  refine td 4 7 hHeld (fun hHeld => ?_)
  refine tc 8 fun K hK => ?_
  refine step_app1 (by rfl) _ _ _ (by rfl) cb 70 (.int .i64 0) Tryz.underlying71 (by kernel_rfl) (by rfl) (S 9) n (C 9) (by rfl) (o0.alloc' _) wc.heap.size _ (V 9) (by rfl) (by go_simp) hn (by simp; omega) (wc.heap.size + 1) (by simp) ?_
  intro g cap w1 ho hg hor hlt
  obtain ⟨qb, qc, qf, hst⟩ := AddN.step h9 (by omega) hcb ho hg hor hlt
  refine tr hK (fun hHeld => ?_) (by (try dsimp only); exact qb)
  clear hK K
  refine tq 9 hHeld ?_
  refine tq 10 hHeld ?_
  (refine tc 11 fun K hK => ?_; go_simp; refine tr hK (fun hHeld => ?_) (by (try dsimp only); exact (cset_far (by simp; omega)).trans qb); clear hK K)
  refine wpAnyH_done (by kernel_rfl) ?_ _
  go_wp2_with fail
  go_meet
  exact ⟨_, hst⟩
 case rest =>
 obtain ⟨S10, h10⟩ := hcut
 clear b0 o0 c0 f0 z0 l0 h9
 go_upto_region 11 with fail
 have b0 := h10.body 10 (by omega)
 obtain ⟨e0, o0⟩ := h10.todo 10 (by omega) (by omega)
 have c0 := h10.hd 10 (by omega)
 rw [e0] at c0
 clear e0
 have f0 := h10.nf 10 (by omega)
 have z0 := h10.big
 have l0 : cb < wc.heap.size := by omega
 go_cut [] (fun wc => ∃ S', AddN w wc cb n C V S 11 S')
 case first =>
  refine wp_region_held_drew (S := fun w' => w'.cell? ⟨w.heap.size, 10, none⟩ = some (.int .i64 (V 10))) (by kernel_rfl) ?_ (fun hHeld => ?_)
  · (try dsimp only)
    (first | (go_simp; done) | (go_keep; done))
  refine tq 0 hHeld ?_
  refine tq 1 hHeld ?_
  refine tq 2 hHeld ?_
  refine tq 3 hHeld ?_
  refine tq 5 hHeld ?_
  refine tq 6 hHeld ?_
  refine td 4 7 hHeld (fun hHeld => ?_)
  refine tc 8 fun K hK => ?_
  refine step_app1 (by rfl) _ _ _ (by rfl) cb 70 (.int .i64 0) Tryz.underlying71 (by kernel_rfl) (by rfl) (S 10) n (C 10) (by rfl) (o0.alloc' _) wc.heap.size _ (V 10) (by rfl) (by go_simp) hn (by simp; omega) (wc.heap.size + 1) (by simp) ?_
  intro g cap w1 ho hg hor hlt
  obtain ⟨qb, qc, qf, hst⟩ := AddN.step h10 (by omega) hcb ho hg hor hlt
  refine tr hK (fun hHeld => ?_) (by (try dsimp only); exact qb)
  clear hK K
  refine tq 9 hHeld ?_
  refine tq 10 hHeld ?_
  (refine tc 11 fun K hK => ?_; go_simp; refine tr hK (fun hHeld => ?_) (by (try dsimp only); exact (cset_far (by simp; omega)).trans qb); clear hK K)
  refine wpAnyH_done (by kernel_rfl) ?_ _
  go_wp2_with fail
  go_meet
  exact ⟨_, hst⟩
 case rest =>
 obtain ⟨S11, h11⟩ := hcut
 clear b0 o0 c0 f0 z0 l0 h10
 go_upto_region 12 with fail
 have b0 := h11.body 11 (by omega)
 obtain ⟨e0, o0⟩ := h11.todo 11 (by omega) (by omega)
 have c0 := h11.hd 11 (by omega)
 rw [e0] at c0
 clear e0
 have f0 := h11.nf 11 (by omega)
 have z0 := h11.big
 have l0 : cb < wc.heap.size := by omega
 refine wp_region_held_drew (S := fun w' => w'.cell? ⟨w.heap.size, 11, none⟩ = some (.int .i64 (V 11))) (by kernel_rfl) ?_ (fun hHeld => ?_)
 · (try dsimp only)
   (first | (go_simp; done) | (go_keep; done))
 refine tq 0 hHeld ?_
 refine tq 1 hHeld ?_
 refine tq 2 hHeld ?_
 refine tq 3 hHeld ?_
 refine tq 5 hHeld ?_
 refine tq 6 hHeld ?_
 refine td 4 7 hHeld (fun hHeld => ?_)
 refine tc 8 fun K hK => ?_
 refine step_app1 (by rfl) _ _ _ (by rfl) cb 70 (.int .i64 0) Tryz.underlying71 (by kernel_rfl) (by rfl) (S 11) n (C 11) (by rfl) (o0.alloc' _) wc.heap.size _ (V 11) (by rfl) (by go_simp) hn (by simp; omega) (wc.heap.size + 1) (by simp) ?_
 intro g cap w1 ho hg hor hlt
 obtain ⟨qb, qc, qf, hst⟩ := AddN.step h11 (by omega) hcb ho hg hor hlt
 refine tr hK (fun hHeld => ?_) (by (try dsimp only); exact qb)
 clear hK K
 refine tq 9 hHeld ?_
 refine tq 10 hHeld ?_
 (refine tc 11 fun K hK => ?_; go_simp; refine tr hK (fun hHeld => ?_) (by (try dsimp only); exact (cset_far (by simp; omega)).trans qb); clear hK K)
 refine wpAnyH_done (by kernel_rfl) ?_ _
 go_wp2_with fail
 go_end0
 exact ⟨rfl, _, hst.cs, hst.fr⟩
def colOf (U : Nat → Int) : Nat → Nat → Int := fun i k => U (k * 12 + i)
theorem snoc_col (U : Nat → Int) (n : Nat) {i k : Nat} (hk : k < n + 1) : snocC n (colOf U) (fun j => U (n * 12 + j)) i k = colOf U i k := by
 unfold snocC snoc colOf
 by_cases e : k = n
 · rw [if_pos e, e]
 · rw [if_neg e]
theorem rowsOf_any (a : Option Addr) (n c : Nat) (U : Nat → Int) (w : World) (h : Flat w a (n * 12) U) (hn : n ≤ 1048575) :
 Calls Tryz.prog 32 #[.slice a n c] w fun e w' => e = .returned (.pointer (some ⟨w.heap.size, 0, none⟩)) ∧ Below w.heap.size w w' ∧ ∃ S, Cs w' w.heap.size n (colOf U) S := by
 have hset := cset_map
 go_enter Tryz.func32, Tryz.ntmps32
 go_wp2
 go_loopw [5, 10] (fun _ i wr => ∃ k : Nat, k ≤ n ∧ i = .int .i64 (k : Int) ∧ Below w.heap.size w wr ∧ ∃ S, Cs wr w.heap.size k (colOf U) S) (fun _ i _ => n - (intOf i).toNat)
 case atStart =>
  refine ⟨0, Nat.zero_le _, rfl, (Below.refl _ _).alloc (Nat.le_refl _) _, fun _ => .slice none 0 0, fun i hi => ?_, fun i hi => ?_, fun i hi => OwnL.nil _ _ _ _ _, (fun _ _ _ e => by cases e), (fun _ _ _ _ _ _ e => by cases e)⟩
  · rcases (show i = 0 ∨ i = 1 ∨ i = 2 ∨ i = 3 ∨ i = 4 ∨ i = 5 ∨ i = 6 ∨ i = 7 ∨ i = 8 ∨ i = 9 ∨ i = 10 ∨ i = 11 by omega) with rfl | rfl | rfl | rfl | rfl | rfl | rfl | rfl | rfl | rfl | rfl | rfl <;> go_simp
  · go_simp
 case round =>
  obtain ⟨k, hk, rfl, hB, S, hC⟩ := hrel
  by_cases hlt : k < n
  · obtain ⟨b, o, rfl, hbl, hc⟩ := h (by omega)
    have hc' : ∀ q, q < n * 12 → wr.cell? ⟨b, o + q, none⟩ = some (.int .i64 (U q)) := fun q hq => (hB.cell (p := ⟨b, o + q, none⟩) hbl).trans (hc q hq)
    clear hc
    have c0 := hc' (k * 12) (by omega)
    have c1 := hc' (k * 12 + 1) (by omega)
    have c2 := hc' (k * 12 + 2) (by omega)
    have c3 := hc' (k * 12 + 3) (by omega)
    have c4 := hc' (k * 12 + 4) (by omega)
    have c5 := hc' (k * 12 + 5) (by omega)
    have c6 := hc' (k * 12 + 6) (by omega)
    have c7 := hc' (k * 12 + 7) (by omega)
    have c8 := hc' (k * 12 + 8) (by omega)
    have c9 := hc' (k * 12 + 9) (by omega)
    have c10 := hc' (k * 12 + 10) (by omega)
    have c11 := hc' (k * 12 + 11) (by omega)
    simp only [← Nat.add_assoc] at c0 c1 c2 c3 c4 c5 c6 c7 c8 c9 c10 c11
    clear hc'
    go_upto_region 5 with fail
    have hE : Below wr.heap.size wr (wr.alloc (Obj.cells #[.int .i64 (U (k * 12)), .int .i64 (U (k * 12 + 1)), .int .i64 (U (k * 12 + 2)), .int .i64 (U (k * 12 + 3)), .int .i64 (U (k * 12 + 4)), .int .i64 (U (k * 12 + 5)), .int .i64 (U (k * 12 + 6)), .int .i64 (U (k * 12 + 7)), .int .i64 (U (k * 12 + 8)), .int .i64 (U (k * 12 + 9)), .int .i64 (U (k * 12 + 10)), .int .i64 (U (k * 12 + 11))] 34)) := (Below.refl _ _).alloc (Nat.le_refl _) _
    have hB2 := hB.trans (hE.mono hB.size)
    have hC2 := hC.below hE
    have x0 : (wr.alloc (Obj.cells #[.int .i64 (U (k * 12)), .int .i64 (U (k * 12 + 1)), .int .i64 (U (k * 12 + 2)), .int .i64 (U (k * 12 + 3)), .int .i64 (U (k * 12 + 4)), .int .i64 (U (k * 12 + 5)), .int .i64 (U (k * 12 + 6)), .int .i64 (U (k * 12 + 7)), .int .i64 (U (k * 12 + 8)), .int .i64 (U (k * 12 + 9)), .int .i64 (U (k * 12 + 10)), .int .i64 (U (k * 12 + 11))] 34)).cell? ⟨wr.heap.size, 0, none⟩ = some (.int .i64 (U (k * 12))) := by go_simp
    have x1 : (wr.alloc (Obj.cells #[.int .i64 (U (k * 12)), .int .i64 (U (k * 12 + 1)), .int .i64 (U (k * 12 + 2)), .int .i64 (U (k * 12 + 3)), .int .i64 (U (k * 12 + 4)), .int .i64 (U (k * 12 + 5)), .int .i64 (U (k * 12 + 6)), .int .i64 (U (k * 12 + 7)), .int .i64 (U (k * 12 + 8)), .int .i64 (U (k * 12 + 9)), .int .i64 (U (k * 12 + 10)), .int .i64 (U (k * 12 + 11))] 34)).cell? ⟨wr.heap.size, 1, none⟩ = some (.int .i64 (U (k * 12 + 1))) := by go_simp
    have x2 : (wr.alloc (Obj.cells #[.int .i64 (U (k * 12)), .int .i64 (U (k * 12 + 1)), .int .i64 (U (k * 12 + 2)), .int .i64 (U (k * 12 + 3)), .int .i64 (U (k * 12 + 4)), .int .i64 (U (k * 12 + 5)), .int .i64 (U (k * 12 + 6)), .int .i64 (U (k * 12 + 7)), .int .i64 (U (k * 12 + 8)), .int .i64 (U (k * 12 + 9)), .int .i64 (U (k * 12 + 10)), .int .i64 (U (k * 12 + 11))] 34)).cell? ⟨wr.heap.size, 2, none⟩ = some (.int .i64 (U (k * 12 + 2))) := by go_simp
    have x3 : (wr.alloc (Obj.cells #[.int .i64 (U (k * 12)), .int .i64 (U (k * 12 + 1)), .int .i64 (U (k * 12 + 2)), .int .i64 (U (k * 12 + 3)), .int .i64 (U (k * 12 + 4)), .int .i64 (U (k * 12 + 5)), .int .i64 (U (k * 12 + 6)), .int .i64 (U (k * 12 + 7)), .int .i64 (U (k * 12 + 8)), .int .i64 (U (k * 12 + 9)), .int .i64 (U (k * 12 + 10)), .int .i64 (U (k * 12 + 11))] 34)).cell? ⟨wr.heap.size, 3, none⟩ = some (.int .i64 (U (k * 12 + 3))) := by go_simp
    have x4 : (wr.alloc (Obj.cells #[.int .i64 (U (k * 12)), .int .i64 (U (k * 12 + 1)), .int .i64 (U (k * 12 + 2)), .int .i64 (U (k * 12 + 3)), .int .i64 (U (k * 12 + 4)), .int .i64 (U (k * 12 + 5)), .int .i64 (U (k * 12 + 6)), .int .i64 (U (k * 12 + 7)), .int .i64 (U (k * 12 + 8)), .int .i64 (U (k * 12 + 9)), .int .i64 (U (k * 12 + 10)), .int .i64 (U (k * 12 + 11))] 34)).cell? ⟨wr.heap.size, 4, none⟩ = some (.int .i64 (U (k * 12 + 4))) := by go_simp
    have x5 : (wr.alloc (Obj.cells #[.int .i64 (U (k * 12)), .int .i64 (U (k * 12 + 1)), .int .i64 (U (k * 12 + 2)), .int .i64 (U (k * 12 + 3)), .int .i64 (U (k * 12 + 4)), .int .i64 (U (k * 12 + 5)), .int .i64 (U (k * 12 + 6)), .int .i64 (U (k * 12 + 7)), .int .i64 (U (k * 12 + 8)), .int .i64 (U (k * 12 + 9)), .int .i64 (U (k * 12 + 10)), .int .i64 (U (k * 12 + 11))] 34)).cell? ⟨wr.heap.size, 5, none⟩ = some (.int .i64 (U (k * 12 + 5))) := by go_simp
    have x6 : (wr.alloc (Obj.cells #[.int .i64 (U (k * 12)), .int .i64 (U (k * 12 + 1)), .int .i64 (U (k * 12 + 2)), .int .i64 (U (k * 12 + 3)), .int .i64 (U (k * 12 + 4)), .int .i64 (U (k * 12 + 5)), .int .i64 (U (k * 12 + 6)), .int .i64 (U (k * 12 + 7)), .int .i64 (U (k * 12 + 8)), .int .i64 (U (k * 12 + 9)), .int .i64 (U (k * 12 + 10)), .int .i64 (U (k * 12 + 11))] 34)).cell? ⟨wr.heap.size, 6, none⟩ = some (.int .i64 (U (k * 12 + 6))) := by go_simp
    have x7 : (wr.alloc (Obj.cells #[.int .i64 (U (k * 12)), .int .i64 (U (k * 12 + 1)), .int .i64 (U (k * 12 + 2)), .int .i64 (U (k * 12 + 3)), .int .i64 (U (k * 12 + 4)), .int .i64 (U (k * 12 + 5)), .int .i64 (U (k * 12 + 6)), .int .i64 (U (k * 12 + 7)), .int .i64 (U (k * 12 + 8)), .int .i64 (U (k * 12 + 9)), .int .i64 (U (k * 12 + 10)), .int .i64 (U (k * 12 + 11))] 34)).cell? ⟨wr.heap.size, 7, none⟩ = some (.int .i64 (U (k * 12 + 7))) := by go_simp
    have x8 : (wr.alloc (Obj.cells #[.int .i64 (U (k * 12)), .int .i64 (U (k * 12 + 1)), .int .i64 (U (k * 12 + 2)), .int .i64 (U (k * 12 + 3)), .int .i64 (U (k * 12 + 4)), .int .i64 (U (k * 12 + 5)), .int .i64 (U (k * 12 + 6)), .int .i64 (U (k * 12 + 7)), .int .i64 (U (k * 12 + 8)), .int .i64 (U (k * 12 + 9)), .int .i64 (U (k * 12 + 10)), .int .i64 (U (k * 12 + 11))] 34)).cell? ⟨wr.heap.size, 8, none⟩ = some (.int .i64 (U (k * 12 + 8))) := by go_simp
    have x9 : (wr.alloc (Obj.cells #[.int .i64 (U (k * 12)), .int .i64 (U (k * 12 + 1)), .int .i64 (U (k * 12 + 2)), .int .i64 (U (k * 12 + 3)), .int .i64 (U (k * 12 + 4)), .int .i64 (U (k * 12 + 5)), .int .i64 (U (k * 12 + 6)), .int .i64 (U (k * 12 + 7)), .int .i64 (U (k * 12 + 8)), .int .i64 (U (k * 12 + 9)), .int .i64 (U (k * 12 + 10)), .int .i64 (U (k * 12 + 11))] 34)).cell? ⟨wr.heap.size, 9, none⟩ = some (.int .i64 (U (k * 12 + 9))) := by go_simp
    have x10 : (wr.alloc (Obj.cells #[.int .i64 (U (k * 12)), .int .i64 (U (k * 12 + 1)), .int .i64 (U (k * 12 + 2)), .int .i64 (U (k * 12 + 3)), .int .i64 (U (k * 12 + 4)), .int .i64 (U (k * 12 + 5)), .int .i64 (U (k * 12 + 6)), .int .i64 (U (k * 12 + 7)), .int .i64 (U (k * 12 + 8)), .int .i64 (U (k * 12 + 9)), .int .i64 (U (k * 12 + 10)), .int .i64 (U (k * 12 + 11))] 34)).cell? ⟨wr.heap.size, 10, none⟩ = some (.int .i64 (U (k * 12 + 10))) := by go_simp
    have x11 : (wr.alloc (Obj.cells #[.int .i64 (U (k * 12)), .int .i64 (U (k * 12 + 1)), .int .i64 (U (k * 12 + 2)), .int .i64 (U (k * 12 + 3)), .int .i64 (U (k * 12 + 4)), .int .i64 (U (k * 12 + 5)), .int .i64 (U (k * 12 + 6)), .int .i64 (U (k * 12 + 7)), .int .i64 (U (k * 12 + 8)), .int .i64 (U (k * 12 + 9)), .int .i64 (U (k * 12 + 10)), .int .i64 (U (k * 12 + 11))] 34)).cell? ⟨wr.heap.size, 11, none⟩ = some (.int .i64 (U (k * 12 + 11))) := by go_simp
    generalize (wr.alloc (Obj.cells #[.int .i64 (U (k * 12)), .int .i64 (U (k * 12 + 1)), .int .i64 (U (k * 12 + 2)), .int .i64 (U (k * 12 + 3)), .int .i64 (U (k * 12 + 4)), .int .i64 (U (k * 12 + 5)), .int .i64 (U (k * 12 + 6)), .int .i64 (U (k * 12 + 7)), .int .i64 (U (k * 12 + 8)), .int .i64 (U (k * 12 + 9)), .int .i64 (U (k * 12 + 10)), .int .i64 (U (k * 12 + 11))] 34)) = wx at hE hB2 hC2 x0 x1 x2 x3 x4 x5 x6 x7 x8 x9 x10 x11 ⊢
    clear c0 c1 c2 c3 c4 c5 c6 c7 c8 c9 c10 c11 hE hC hB
    go_wp2_with (go_at_call 56; refine (add_any w.heap.size k (colOf U) (fun j => U (k * 12 + j)) S _ hC2 (by omega)).mono ?_; rintro e w1 ⟨rfl, S1, hC1, hF1⟩)
    go_roundw
    case rel => exact ⟨k + 1, by omega, by go_num, hB2.trans (hF1.below hB2.size (fun x q => q.elim (fun q => Nat.le_of_eq q.symm) (fun q => Nat.le_of_lt (hC2.xlt q).1))), S1, hC1.congr fun i q _ hq => snoc_col U k hq⟩
    case measure => simp [intOf]; omega
  · go_wp2
    go_ret
    obtain rfl : k = n := by omega
    exact ⟨rfl, hB, S, hC⟩
end Go.Proofs.YtalkkjhehndaoaaGreat
namespace Go.Proofs.YtalkkjhehndaoaaGreat
open Go.RowKit Go.Shelf
set_option linter.unusedVariables false
set_option linter.unusedSimpArgs false
abbrev hdk (cb k : Nat) : Value := .agg #[.int .i64 (k : Int), .pointer (some ⟨cb, 0, none⟩)]
theorem handle_any (cb k : Nat) (w : World) :
 Calls Tryz.prog 48 #[.pointer (some ⟨cb, 0, none⟩), .int .i64 (k : Int)] w fun e w' => e = .returned (hdk cb k) ∧ Below w.heap.size w w' := by
 go_enter Tryz.func48, Tryz.ntmps48
 go_wp2
 exact bodyPost_ret (v := hdk cb k) (by simp [results, Tryz.results48, go_sem, *]) rfl ⟨rfl, by repeat (first | with_reducible apply Below.refl | (with_reducible apply Below.setCell; rotate_left; focus (first | omega | (simp; done) | (simp; omega))) | (with_reducible apply Below.alloc; rotate_left; focus (first | omega | (simp; done) | (simp; omega))))⟩
theorem each_enters : ∀ args w, (callFunc 33 args).run Tryz.prog w = .ok (.enter 33 args) w := enters_of Tryz.func33 (by kernel_rfl) rfl
theorem each_it (cb nn cc : Nat) (ad : Option Addr) (w : World) (hcb : cb < w.heap.size) (hc : w.cell? ⟨cb, 0, none⟩ = some (.slice ad nn cc)) (hn : nn ≤ 1048576) :
 ItC Tryz.prog 33 #[.pointer (some ⟨cb, 0, none⟩)] (fun k => #[hdk cb k]) nn w := by
 intro l J Jx W hbW hJb hJx hY h0
 have hc' : W.cell? ⟨cb, 0, none⟩ = some (.slice ad nn cc) := (hbW.cell (p := ⟨cb, 0, none⟩) hcb).trans hc
 refine callsIn_of_wp Tryz.func33 rfl trivial ?_ rfl
 simp only [Tryz.ntmps33, List.size_toArray, List.length_cons, List.length_nil, Nat.reduceAdd, Nat.reduceSub, Array.replicate_succ, Array.replicate_zero, List.push_toArray, List.append_toArray, List.nil_append, List.cons_append]
 gi_wp2
 gi_loopw [4, 10] (fun _ i wr => ∃ k : Nat, k ≤ nn ∧ i = .int .i64 (k : Int) ∧ J k wr) (fun _ i _ => nn - (intOf i).toNat)
 case atStart => exact ⟨0, Nat.zero_le _, rfl, h0⟩
 case round =>
  obtain ⟨k, hk, rfl, hJ⟩ := hrel
  by_cases hlt : k < nn
  · gi_wp2_with (refine ⟨trivial, rfl, ?_⟩; gi_at_call 48; refine (callsIn_wide.2 (handle_any cb k _)).mono ?_; rintro e w1 ⟨rfl, hb1⟩; have hJ1 := hJb _ _ _ hJ hb1; obtain ⟨fn, tmps, assign, body, hy, hR⟩ := hY k w1 hJ1 hlt)
    refine ⟨rfl, hR.mono ?_⟩
    rintro e w2 (⟨rfl, hJ2⟩ | ⟨rfl, hJx2⟩)
    · gi_wp2
      go_roundw
      case rel => exact ⟨k + 1, by omega, by go_num, hJ2⟩
      case measure => simp [intOf]; omega
    · gi_wp2
      refine bodyPost_ret (results_none rfl _ _ _) rfl ?_
      exact ⟨⟨_, rfl⟩, .inr hJx2⟩
  · gi_wp2
    go_end0
    obtain rfl : k = nn := by omega
    exact ⟨⟨_, rfl⟩, .inl hJ⟩
end Go.Proofs.YtalkkjhehndaoaaGreat
namespace Go.Proofs.YtalkkjhehndaoaaGreat
open Go.RowKit
set_option linter.unusedVariables false
set_option linter.unusedSimpArgs false
theorem l2Clamp_any (x y : Int) (w : World) :
 Calls Tryz.prog 105 #[vv x y] w fun e w' => e = .returned (vv (fc x) (fc y)) ∧ Below w.heap.size w w' := by
 have hset := cset_map
 go_enter Tryz.func105, Tryz.ntmps105
 go_wp2
 go_region_with (go_at_call 106; refine (sFixClamp_any _ _).mono ?_; rintro e w' ⟨rfl, rfl⟩)
 all_goals
  go_wp2
  exact bodyPost_ret (v := vv (fc x) (fc y)) (by simp [results, Tryz.results105, go_sem, *]) rfl ⟨rfl, bel_a⟩
theorem l1In_any (n l h : Int) (w : World) :
 Calls Tryz.prog 38 #[.int .i64 n, .int .i64 l, .int .i64 h] w fun e w' => e = .returned (.bool (decide (l ≤ n ∧ n ≤ h))) ∧ w' = w := by
 go_enter Tryz.func38, Tryz.ntmps38
 go_wp2
 all_goals
  go_ret
  refine ⟨ret_bool ?_, rfl⟩
  first | (simp; omega) | (simp; done)
theorem sVecSub_any (x y u v : Int) (w : World) :
 Calls Tryz.prog 130 #[vv x y, vv u v] w fun e w' => e = .returned (vv (fc (fc x - fc u)) (fc (fc y - fc v))) ∧ Below w.heap.size w w' := by
 have hx := fc_bd x
 have hy := fc_bd y
 have hu := fc_bd u
 have hv := fc_bd v
 have hset := cset_map
 go_enter Tryz.func130, Tryz.ntmps130
 go_wp2_with (go_at_call 105; refine (l2Clamp_any _ _ _).mono ?_; rintro e w1 ⟨rfl, hb1⟩; obtain ⟨hc1, hf1⟩ := bcell hb1; have hz1 := hb1.size; (try simp at hz1); have hq1x0a : w.heap.size < w1.heap.size := (by omega); have hq1x1a : w.heap.size + 1 < w1.heap.size := (by omega); have hq1x2a : w.heap.size + 1 + 1 < w1.heap.size := (by omega); have hq1x2b : w.heap.size + 2 < w1.heap.size := (by omega))
 exact bodyPost_ret (v := vv (fc (fc x - fc u)) (fc (fc y - fc v))) (by simp [results, Tryz.results130, go_sem, *]) rfl ⟨rfl, bel_a⟩
theorem sVecDot_any (x y u v : Int) (w : World) :
 Calls Tryz.prog 129 #[vv x y, vv u v] w fun e w' => e = .returned (.int .i64 (vdot x y u v)) ∧ Below w.heap.size w w' := by
 have hx := fc_bd x
 have hy := fc_bd y
 have hu := fc_bd u
 have hv := fc_bd v
 have p := mul_bd hx hu
 have q := mul_bd hy hv
 have hset := cset_map
 go_enter Tryz.func129, Tryz.ntmps129
 go_wp2_with (first
  | (go_at_call 105; refine (l2Clamp_any _ _ _).mono ?_; rintro e w1 ⟨rfl, hb1⟩; obtain ⟨hc1, hf1⟩ := bcell hb1; have hz1 := hb1.size; (try simp at hz1); have hq1x0a : w.heap.size < w1.heap.size := (by omega); have hq1x1a : w.heap.size + 1 < w1.heap.size := (by omega))
  | (go_at_call 106; refine (sFixClamp_any _ _).mono ?_; rintro e w' ⟨rfl, rfl⟩))
 go_ret
 exact ⟨rfl, bel_a⟩
abbrev b4 (a b c d : Int) : Value := .agg #[.int .i64 a, .int .i64 b, .int .i64 c, .int .i64 d]
def leB (x y u v : Int) : Bool := decide (x ≤ u ∧ y ≤ v)
def bokB (a b c d : Int) : Bool := vokB a b && (vokB c d && leB a b c d)
theorem noneGreater_any (x y u v : Int) (w : World) :
 Calls Tryz.prog 136 #[vv x y, vv u v] w fun e w' => e = .returned (.bool (leB x y u v)) ∧ Below w.heap.size w w' := by
 have hset := cset_map
 go_enter Tryz.func136, Tryz.ntmps136
 go_wp2
 all_goals
  go_ret
  refine ⟨ret_bool ?_, bel_a⟩
  unfold leB
  first | (simp; done) | (simp; omega) | (simp at *; omega)
def mn (x y : Int) : Int := if y < x then y else x
def mx (x y : Int) : Int := if x < y then y else x
theorem spanMeets_any (a b c d r s t u : Int) (w : World) :
 Calls Tryz.prog 126 #[b4 a b c d, b4 r s t u] w fun e w' => e = .returned (.bool (leB a b t u && leB r s c d)) ∧ Below w.heap.size w w' := by
 have hset := cset_map
 go_enter Tryz.func126, Tryz.ntmps126
 go_wp2_with (go_at_call 136; refine (noneGreater_any _ _ _ _ _).mono ?_; rintro e w1 ⟨rfl, hb1⟩; obtain ⟨hc1, hf1⟩ := bcell hb1; have hl1 := blt hb1; have hz1 := hb1.size; (try simp only [World.size_drew, World.size_alloc, World.size_setCell] at hc1 hf1 hl1 hz1); (try have hq1x0 : w.heap.size < w1.heap.size := (by omega)); (try have hq1x1 : w.heap.size + 1 < w1.heap.size := (by omega)))
 all_goals
  go_ret
  refine ⟨ret_bool ?_, bel_a⟩
  first | (simp [*]; done) | (simp at *; simp [*]; done) | (simp at *; omega)
theorem spanHas_any (a b c d r s t u : Int) (w : World) :
 Calls Tryz.prog 123 #[b4 a b c d, b4 r s t u] w fun e w' => e = .returned (.bool (leB a b r s && leB t u c d)) ∧ Below w.heap.size w w' := by
 have hset := cset_map
 go_enter Tryz.func123, Tryz.ntmps123
 go_wp2_with (go_at_call 136; refine (noneGreater_any _ _ _ _ _).mono ?_; rintro e w1 ⟨rfl, hb1⟩; obtain ⟨hc1, hf1⟩ := bcell hb1; have hl1 := blt hb1; have hz1 := hb1.size; (try simp only [World.size_drew, World.size_alloc, World.size_setCell] at hc1 hf1 hl1 hz1); (try have hq1x0 : w.heap.size < w1.heap.size := (by omega)); (try have hq1x1 : w.heap.size + 1 < w1.heap.size := (by omega)))
 all_goals
  go_ret
  refine ⟨ret_bool ?_, bel_a⟩
  first | (simp [*]; done) | (simp at *; simp [*]; done) | (simp at *; omega)
theorem least_any (x y u v : Int) (w : World) :
 Calls Tryz.prog 138 #[vv x y, vv u v] w fun e w' => e = .returned (vv (mn x u) (mn y v)) ∧ Below w.heap.size w w' := by
 have hset := cset_map
 go_enter Tryz.func138, Tryz.ntmps138
 go_wp2
 all_goals
  refine bodyPost_ret (v := vv (mn x u) (mn y v)) ?_ rfl ⟨rfl, bel_a⟩
  simp [results, Tryz.results138, go_sem, *]
  try (constructor <;> (unfold mn; split <;> omega))
theorem greatest_any (x y u v : Int) (w : World) :
 Calls Tryz.prog 137 #[vv x y, vv u v] w fun e w' => e = .returned (vv (mx x u) (mx y v)) ∧ Below w.heap.size w w' := by
 have hset := cset_map
 go_enter Tryz.func137, Tryz.ntmps137
 go_wp2
 all_goals
  refine bodyPost_ret (v := vv (mx x u) (mx y v)) ?_ rfl ⟨rfl, bel_a⟩
  simp [results, Tryz.results137, go_sem, *]
  try (constructor <;> (unfold mx; split <;> omega))
def szB (n : Int) : Bool := decide (1 ≤ n ∧ n ≤ 25600)
theorem isSize_any (n : Int) (w : World) :
 Calls Tryz.prog 104 #[.int .i64 n] w fun e w' => e = .returned (.bool (szB n)) ∧ w' = w := by
 go_enter Tryz.func104, Tryz.ntmps104
 go_wp2
 all_goals
  go_ret
  refine ⟨ret_bool ?_, rfl⟩
  unfold szB
  first | (simp; omega) | (simp; done)
def rdB (k wd h : Int) : Bool := decide (k = 1 ∧ (1 ≤ wd ∧ wd ≤ 25600) ∧ h = 0)
def bxB (k wd h : Int) : Bool := decide (k = 2 ∧ (1 ≤ wd ∧ wd ≤ 25600) ∧ (1 ≤ h ∧ h ≤ 25600))
def shB (k wd h : Int) : Bool := rdB k wd h || bxB k wd h
abbrev s3 (k wd h : Int) : Value := .agg #[.int .i64 k, .int .i64 wd, .int .i64 h]
theorem figureOf_round (wd : Int) (w : World) (h1 : 1 ≤ wd) (h2 : wd ≤ 25600) :
 Calls Tryz.prog 88 #[s3 1 wd 0] w fun e w' => e = .returned (.tuple #[.iface 146 (.agg #[.int .i64 wd]), .bool true]) ∧ Below w.heap.size w w' := by
 have hs : szB wd = true := by unfold szB; simp; omega
 go_enter Tryz.func88, Tryz.ntmps88
 go_wp2_with (go_at_call 104; refine (isSize_any _ _).mono ?_; rintro e w' ⟨rfl, rfl⟩)
 go_ret2
 exact ⟨rfl, (Below.refl _ _).alloc (Nat.le_refl _) _⟩
theorem figureOf_box (wd h : Int) (w : World) (h1 : 1 ≤ wd) (h2 : wd ≤ 25600) (h3 : 1 ≤ h) (h4 : h ≤ 25600) :
 Calls Tryz.prog 88 #[s3 2 wd h] w fun e w' => e = .returned (.tuple #[.iface 148 (.agg #[.int .i64 wd, .int .i64 h]), .bool true]) ∧ Below w.heap.size w w' := by
 have hs : szB wd = true := by unfold szB; simp; omega
 have hs2 : szB h = true := by unfold szB; simp; omega
 go_enter Tryz.func88, Tryz.ntmps88
 go_wp2_with (go_at_call 104; refine (isSize_any _ _).mono ?_; rintro e w' ⟨rfl, rfl⟩)
 go_ret2
 exact ⟨rfl, (Below.refl _ _).alloc (Nat.le_refl _) _⟩
theorem figureOf_none (k wd h : Int) (w : World) (hn : shB k wd h = false) :
 Calls Tryz.prog 88 #[s3 k wd h] w fun e w' => e = .returned (.tuple #[.nilIface, .bool false]) ∧ Below w.heap.size w w' := by
 have HN : Hid (¬ ((k = 1 ∧ (1 ≤ wd ∧ wd ≤ 25600) ∧ h = 0) ∨ (k = 2 ∧ (1 ≤ wd ∧ wd ≤ 25600) ∧ (1 ≤ h ∧ h ≤ 25600)))) := by
  unfold shB rdB bxB at hn
  simp only [Bool.or_eq_false_iff, decide_eq_false_iff_not] at hn
  rintro (h | h)
  · exact hn.1 h
  · exact hn.2 h
 clear hn
 have hsz : Hid (∀ n, szB n = true → 1 ≤ n ∧ n ≤ 25600) := by intro n hn; unfold szB at hn; simpa using hn
 go_enter Tryz.func88, Tryz.ntmps88
 go_wp2_with (go_at_call 104; refine (isSize_any _ _).mono ?_; rintro e w' ⟨rfl, rfl⟩)
 all_goals
  first
   | (go_ret2; exact ⟨rfl, (Below.refl _ _).alloc (Nat.le_refl _) _⟩)
   | (exfalso; subst k; exact HN.out (.inl ⟨rfl, hsz.out _ ‹_›, by simpa using ‹(h == 0) = true›⟩))
   | (exfalso; subst k; exact HN.out (.inr ⟨rfl, hsz.out _ ‹szB wd = true›, hsz.out _ ‹szB h = true›⟩))
theorem shapeOk_any (k wd h : Int) (w : World) :
 Calls Tryz.prog 58 #[s3 k wd h] w fun e w' => e = .returned (.bool (shB k wd h)) ∧ Below w.heap.size w w' := by
 by_cases hr : rdB k wd h = true
 · have e : shB k wd h = true := by unfold shB; rw [hr]; rfl
   have E : Hid (shB k wd h = true) := e
   clear e
   unfold rdB at hr
   obtain ⟨rfl, ⟨h1, h2⟩, rfl⟩ := of_decide_eq_true hr
   clear hr
   go_enter Tryz.func58, Tryz.ntmps58
   go_wp2_with (go_at_call 88; refine (figureOf_round _ _ h1 h2).mono ?_; rintro e w1 ⟨rfl, hb1⟩)
   go_ret
   exact ⟨ret_bool E.out.symm, ((Below.refl _ _).alloc (Nat.le_refl _) _).trans (hb1.mono (by simp))⟩
 · by_cases hb : bxB k wd h = true
   · have e : shB k wd h = true := by unfold shB; rw [hb]; simp
     have E : Hid (shB k wd h = true) := e
     clear e hr
     unfold bxB at hb
     obtain ⟨rfl, ⟨h1, h2⟩, h3, h4⟩ := of_decide_eq_true hb
     clear hb
     go_enter Tryz.func58, Tryz.ntmps58
     go_wp2_with (go_at_call 88; refine (figureOf_box _ _ _ h1 h2 h3 h4).mono ?_; rintro e w1 ⟨rfl, hb1⟩)
     go_ret
     exact ⟨ret_bool E.out.symm, ((Below.refl _ _).alloc (Nat.le_refl _) _).trans (hb1.mono (by simp))⟩
   · have e : shB k wd h = false := by unfold shB; simp [hr, hb]
     have E : Hid (shB k wd h = false) := e
     clear e hr hb
     go_enter Tryz.func58, Tryz.ntmps58
     go_wp2_with (go_at_call 88; refine (figureOf_none _ _ _ _ E.out).mono ?_; rintro e w1 ⟨rfl, hb1⟩)
     go_ret
     exact ⟨ret_bool E.out.symm, ((Below.refl _ _).alloc (Nat.le_refl _) _).trans (hb1.mono (by simp))⟩
theorem sShapeOk_any (k wd h : Int) (w : World) :
 Calls Tryz.prog 39 #[s3 k wd h] w fun e w' => e = .returned (.bool (shB k wd h)) ∧ Below w.heap.size w w' := by
 go_enter Tryz.func39, Tryz.ntmps39
 go_wp2_with (go_at_call 38; refine (l1In_any _ _ _ _).mono ?_; rintro e w' ⟨rfl, rfl⟩)
 all_goals
  go_ret
  refine ⟨ret_bool ?_, (Below.refl _ _).alloc (Nat.le_refl _) _⟩
  unfold shB rdB bxB
  first | (simp [*]; done) | (simp at *; subst k; simp [*]; done) | (simp at *; subst k; simp [*]; rfl) | (simp at *; subst k; simp; omega) | (simp at *; simp [*]; done)
def ptB (a b c d x y : Int) : Bool := decide ((a ≤ x ∧ x ≤ c) ∧ (b ≤ y ∧ y ≤ d))
theorem l3Meets_any (a b c d r s t u : Int) (w : World) :
 Calls Tryz.prog 93 #[b4 a b c d, b4 r s t u] w fun e w' => e = .returned (.bool (leB a b t u && leB r s c d)) ∧ Below w.heap.size w w' := by
 have hset := cset_map
 go_enter Tryz.func93, Tryz.ntmps93
 go_wp2
 all_goals
  go_ret
  refine ⟨ret_bool ?_, bel_a⟩
  unfold leB
  first | (simp [*]; done) | (simp at *; omega) | (simp [*]; omega)
theorem l3Point_any (a b c d x y : Int) (w : World) :
 Calls Tryz.prog 94 #[b4 a b c d, vv x y] w fun e w' => e = .returned (.bool (ptB a b c d x y)) ∧ Below w.heap.size w w' := by
 have hset := cset_map
 go_enter Tryz.func94, Tryz.ntmps94
 go_wp2_with (go_at_call 38; refine (l1In_any _ _ _ _).mono ?_; rintro e w' ⟨rfl, rfl⟩)
 all_goals
  go_ret
  refine ⟨ret_bool ?_, bel_a⟩
  unfold ptB
  first | (simp [*]; done) | (simp at *; omega) | (simp [*]; omega)
theorem l2Square_any (x y : Int) (w : World) (hx : -1500000000 ≤ x ∧ x ≤ 1500000000) (hy : -1500000000 ≤ y ∧ y ≤ 1500000000) :
 Calls Tryz.prog 90 #[vv x y] w fun e w' => e = .returned (.int .i64 (x * x + y * y)) ∧ Below w.heap.size w w' := by
 have p := mul_bd (a := x) (b := x) (A := 1500000000) (B := 1500000000) hx hx
 have q := mul_bd (a := y) (b := y) (A := 1500000000) (B := 1500000000) hy hy
 have hset := cset_map
 go_enter Tryz.func90, Tryz.ntmps90
 go_wp2
 go_ret
 exact ⟨rfl, bel_a⟩
theorem sVecLen_any (x y : Int) (w : World) :
 Calls Tryz.prog 92 #[vv x y] w fun e w' => e = .returned (.int .i64 (vl (fc x) (fc y))) ∧ Below w.heap.size w w' := by
 have hx := fc_bd x
 have hy := fc_bd y
 have hs := sq_bd hx hy
 have hset := cset_map
 go_enter Tryz.func92, Tryz.ntmps92
 go_wp2_with (first
  | (go_at_call 105; refine (l2Clamp_any _ _ _).mono ?_; rintro e w1 ⟨rfl, hb1⟩; obtain ⟨hc1, hf1⟩ := bcell hb1; have hz1 := hb1.size; (try simp at hz1); have hq1x0a : w.heap.size < w1.heap.size := (by omega))
  | (go_at_call 90; refine (l2Square_any _ _ _ (by omega) (by omega)).mono ?_; rintro e w2 ⟨rfl, hb2⟩; obtain ⟨hc2, hf2⟩ := bcell hb2; have hz2 := hb2.size; (try simp at hz2); have hq2x0a : w.heap.size < w2.heap.size := (by omega))
  | (go_at_call 107; refine (l1Root_any _ _ (by omega) (by omega)).mono ?_; rintro e w' ⟨rfl, rfl⟩)
  | (go_at_call 106; refine (sFixClamp_any _ _).mono ?_; rintro e w' ⟨rfl, rfl⟩))
 go_ret
 exact ⟨rfl, bel_a⟩
theorem sVecUnit_any (x y : Int) (w : World) :
 Calls Tryz.prog 91 #[vv x y] w fun e w' => e = .returned (vv (ux (fc x) (fc y)) (uy (fc x) (fc y))) ∧ Below w.heap.size w w' := by
 have hx := fc_bd x
 have hy := fc_bd y
 have hl := vl_bd (fc x) (fc y)
 have f1 := fc_fc x
 have f2 := fc_fc y
 by_cases h0 : vl (fc x) (fc y) = 0
 · have e1 : ux (fc x) (fc y) = 0 := if_pos h0
   have e2 : uy (fc x) (fc y) = 256 := if_pos h0
   have hset := cset_map
   go_enter Tryz.func91, Tryz.ntmps91
   go_wp2_with (first
   | (go_at_call 105; refine (l2Clamp_any _ _ _).mono ?_; rintro e w1 ⟨rfl, hb1⟩; obtain ⟨hc1, hf1⟩ := bcell hb1; have hz1 := hb1.size; (try simp at hz1); have hq1x0a : w.heap.size < w1.heap.size := (by omega); have hq1x1a : w.heap.size + 1 < w1.heap.size := (by omega))
   | (go_at_call 92; refine (sVecLen_any _ _ _).mono ?_; rintro e w6 ⟨rfl, hb6⟩; obtain ⟨hc6, hf6⟩ := bcell hb6; have hz6 := hb6.size; (try simp at hz6); have hq6x0a : w.heap.size < w6.heap.size := (by omega); have hq6x1a : w.heap.size + 1 < w6.heap.size := (by omega)))
   exact bodyPost_ret (v := vv 0 256) (by simp [results, Tryz.results91, go_sem, *]) rfl ⟨by rw [e1, e2], bel_a⟩
 · have t1 := w64 (n := (fc x * 256).tdiv (vl (fc x) (fc y))) (by have := tdiv_bd (x := fc x * 256) (B := 256000000000) (vl (fc x) (fc y)) (by omega); omega)
   have t2 := w64 (n := (fc y * 256).tdiv (vl (fc x) (fc y))) (by have := tdiv_bd (x := fc y * 256) (B := 256000000000) (vl (fc x) (fc y)) (by omega); omega)
   have s1 := i64w (n := (fc x * 256).tdiv (vl (fc x) (fc y))) (by have := tdiv_bd (x := fc x * 256) (B := 256000000000) (vl (fc x) (fc y)) (by omega); omega)
   have s2 := i64w (n := (fc y * 256).tdiv (vl (fc x) (fc y))) (by have := tdiv_bd (x := fc y * 256) (B := 256000000000) (vl (fc x) (fc y)) (by omega); omega)
   have E1 : Hid (ux (fc x) (fc y) = (fc x * 256).tdiv (vl (fc x) (fc y))) := if_neg h0
   have E2 : Hid (uy (fc x) (fc y) = (fc y * 256).tdiv (vl (fc x) (fc y))) := if_neg h0
   have hset := cset_map
   go_enter Tryz.func91, Tryz.ntmps91
   go_wp2_with (first
   | (go_at_call 105; refine (l2Clamp_any _ _ _).mono ?_; rintro e w1 ⟨rfl, hb1⟩; obtain ⟨hc1, hf1⟩ := bcell hb1; have hz1 := hb1.size; (try simp at hz1); have hq1x0a : w.heap.size < w1.heap.size := (by omega); have hq1x1a : w.heap.size + 1 < w1.heap.size := (by omega))
   | (go_at_call 92; refine (sVecLen_any _ _ _).mono ?_; rintro e w6 ⟨rfl, hb6⟩; obtain ⟨hc6, hf6⟩ := bcell hb6; have hz6 := hb6.size; (try simp at hz6); have hq6x0a : w.heap.size < w6.heap.size := (by omega); have hq6x1a : w.heap.size + 1 < w6.heap.size := (by omega)))
   go_region
   all_goals
    go_wp2
    exact bodyPost_ret (v := vv ((fc x * 256).tdiv (vl (fc x) (fc y))) ((fc y * 256).tdiv (vl (fc x) (fc y)))) (by simp [results, Tryz.results91, go_sem, *]) rfl ⟨by rw [E1.out, E2.out], bel_a⟩
def hh (k wd h : Int) : Int := if k = 1 then wd else h
theorem inB_of {l x y : Int} (h : inB l x y = true) : (-l ≤ x ∧ x ≤ l) ∧ (-l ≤ y ∧ y ≤ l) := by
 unfold inB at h; simp only [decide_eq_true_eq] at h; omega
theorem isPlace_any (x y : Int) (w : World) :
 Calls Tryz.prog 108 #[vv x y] w fun e w' => e = .returned (.bool (inB 2560000 x y)) ∧ Below w.heap.size w w' := by
 have hset := cset_map
 go_enter Tryz.func108, Tryz.ntmps108
 go_wp2_with (first
  | (go_at_call 109; refine (wayOf_any _ _ _).mono ?_; rintro e w1 ⟨rfl, hb1⟩; obtain ⟨hc1, hf1⟩ := bcell hb1; have hl1 := blt hb1; have hz1 := hb1.size; (try simp only [World.size_drew, World.size_alloc, World.size_setCell] at hc1 hf1 hl1 hz1); (try have hq1x0 : w.heap.size < w1.heap.size := (by omega)))
  | (go_at_call 61; refine (within2_any _ _ _ _ (by omega) (by omega)).mono ?_; rintro e w2 ⟨rfl, hb2⟩; obtain ⟨hc2, hf2⟩ := bcell hb2; have hl2 := blt hb2; have hz2 := hb2.size; (try simp only [World.size_drew, World.size_alloc, World.size_setCell] at hc2 hf2 hl2 hz2); (try have hq2x0 : w.heap.size < w2.heap.size := (by omega))))
 go_ret
 exact ⟨rfl, bel_a⟩
theorem reach_r (wd : Int) (w : World) :
 Calls Tryz.prog 162 #[.agg #[.int .i64 wd]] w fun e w' => e = .returned (vv wd wd) ∧ Below w.heap.size w w' := by
 have hset := cset_map
 go_enter Tryz.func162, Tryz.ntmps162
 go_wp2
 exact bodyPost_ret (v := vv wd wd) (by simp [results, Tryz.results162, go_sem, *]) rfl ⟨rfl, bel_a⟩
theorem reach_b (wd h : Int) (w : World) :
 Calls Tryz.prog 163 #[.agg #[.int .i64 wd, .int .i64 h]] w fun e w' => e = .returned (vv wd h) ∧ Below w.heap.size w w' := by
 have hset := cset_map
 go_enter Tryz.func163, Tryz.ntmps163
 go_wp2
 exact bodyPost_ret (v := vv wd h) (by simp [results, Tryz.results163, go_sem, *]) rfl ⟨rfl, bel_a⟩
theorem l3Place_any (x y : Int) (w : World) :
 Calls Tryz.prog 40 #[vv x y] w fun e w' => e = .returned (.bool (inB 2560000 x y)) ∧ Below w.heap.size w w' := by
 have hset := cset_map
 go_enter Tryz.func40, Tryz.ntmps40
 go_wp2_with (go_at_call 38; refine (l1In_any _ _ _ _).mono ?_; rintro e w' ⟨rfl, rfl⟩)
 all_goals
  go_ret
  refine ⟨ret_bool ?_, bel_a⟩
  unfold inB
  first | (simp [*]; done) | (simp at *; omega) | (simp [*]; omega)
theorem l3Bounds_b (wd h x y : Int) (w : World) (h1 : 1 ≤ wd) (h2 : wd ≤ 25600) (h3 : 1 ≤ h) (h4 : h ≤ 25600) (hx : -2560000 ≤ x ∧ x ≤ 2560000) (hy : -2560000 ≤ y ∧ y ≤ 2560000) :
 Calls Tryz.prog 69 #[s3 2 wd h, vv x y] w fun e w' => e = .returned (b4 (x - wd) (y - h) (x + wd) (y + h)) ∧ Below w.heap.size w w' := by
 have hset := cset_map
 go_enter Tryz.func69, Tryz.ntmps69
 go_wp2
 all_goals
  exact bodyPost_ret (v := b4 (x - wd) (y - h) (x + wd) (y + h)) (by simp [results, Tryz.results69, go_sem, *]) rfl ⟨rfl, bel_a⟩
structure HAt (w : World) (cb n k : Nat) (V : Nat → Int) (G : Nat → Nat) : Prop where
 col : ∀ i, i < 12 → ∃ c, Cell1 w cb n i k (V i) (G i) c
 cbl : cb < w.heap.size
 kn : k < n
 nl : n ≤ 1048576
theorem HAt.below {w w' : World} {cb n k : Nat} {V : Nat → Int} {G : Nat → Nat} (h : HAt w cb n k V G) (hb : Below w.heap.size w w') : HAt w' cb n k V G :=
 ⟨fun i hi => by
  obtain ⟨c, h1, h2, h3, h4, h5⟩ := h.col i hi
  exact ⟨c, (hb.cell (p := ⟨cb, i, none⟩) h.cbl).trans h1, (hb.cell (p := ⟨G i, k, none⟩) h4).trans h2, (hb.frozen (p := ⟨G i, k, none⟩) h4).trans h3, Nat.lt_of_lt_of_le h4 hb.size, h5⟩, Nat.lt_of_lt_of_le h.cbl hb.size, h.kn, h.nl⟩
def gOf (S : Nat → Value) (i : Nat) : Nat := ((S i).ownBlock).getD 0
theorem Cs.hat {w : World} {cb n k : Nat} {C : Nat → Nat → Int} {S : Nat → Value} (h : Cs w cb n C S) (hk : k < n) (hn : n ≤ 1048576) : HAt w cb n k (fun i => C i k) (gOf S) :=
 ⟨fun i hi => by
  obtain ⟨g, c, e, hc⟩ := h.at hi hk
  refine ⟨c, ?_⟩
  rw [show gOf S i = g from by unfold gOf; rw [e]; rfl]
  exact hc, h.lt, hk, hn⟩
theorem upTo_any (n l : Int) (w : World) :
 Calls Tryz.prog 57 #[.int .i64 n, .int .i64 l] w fun e w' => e = .returned (.bool (decide (0 ≤ n ∧ n ≤ l))) ∧ w' = w := by
 go_enter Tryz.func57, Tryz.ntmps57
 go_wp2
 all_goals
  go_ret
  refine ⟨ret_bool ?_, rfl⟩
  first | (simp [*]; done) | (simp at *; omega) | (simp [*]; omega)
theorem kMass {cb n k : Nat} {V : Nat → Int} {G : Nat → Nat} {w : World} (h : HAt w cb n k V G) :
 Calls Tryz.prog 63 #[hdk cb k] w fun e w' => e = .returned (.int .i64 (V 8)) ∧ Below w.heap.size w w' := by
 have hset := cset_map
 have l1 := h.cbl
 have hkn := h.kn
 have hnl := h.nl
 obtain ⟨c8, hc8, hv8, _, l8g, lc8⟩ := h.col 8 (by omega)
 generalize G 8 = g8 at hc8 hv8 l8g lc8
 clear h
 go_enter Tryz.func63, Tryz.ntmps63
 go_upto_region 1 with fail
 refine wp_region_held_drew (S := fun w' => w'.cell? ⟨w.heap.size, 0, none⟩ = some (.int .i64 (k : Int)) ∧ w'.cell? ⟨w.heap.size, 1, none⟩ = some (.pointer (some ⟨cb, 0, none⟩)) ∧ w'.cell? ⟨cb, 8, none⟩ = some (.slice (some ⟨g8, 0, none⟩) n c8) ∧ w'.cell? ⟨g8, k, none⟩ = some (.int .i64 (V 8))) (by kernel_rfl) ?_ (fun hHeld => ?_)
 · (try dsimp only)
   (first | (go_simp; done) | (go_keep; done))
 refine tq 0 hHeld ?_
 refine tq 1 hHeld ?_
 refine tq 2 hHeld ?_
 refine tq 3 hHeld ?_
 refine tq 4 hHeld ?_
 refine tq 5 hHeld ?_
 refine tq 6 hHeld ?_
 refine tq 7 hHeld ?_
 refine tq 8 hHeld ?_
 refine tq 9 hHeld ?_
 refine wpAnyH_done (by kernel_rfl) ?_ _
 go_wp2_with fail
 go_ret
 exact ⟨rfl, bel_a⟩
theorem kBounce {cb n k : Nat} {V : Nat → Int} {G : Nat → Nat} {w : World} (h : HAt w cb n k V G) :
 Calls Tryz.prog 64 #[hdk cb k] w fun e w' => e = .returned (.int .i64 (V 9)) ∧ Below w.heap.size w w' := by
 have hset := cset_map
 have l1 := h.cbl
 have hkn := h.kn
 have hnl := h.nl
 obtain ⟨c9, hc9, hv9, _, l9g, lc9⟩ := h.col 9 (by omega)
 generalize G 9 = g9 at hc9 hv9 l9g lc9
 clear h
 go_enter Tryz.func64, Tryz.ntmps64
 go_upto_region 1 with fail
 refine wp_region_held_drew (S := fun w' => w'.cell? ⟨w.heap.size, 0, none⟩ = some (.int .i64 (k : Int)) ∧ w'.cell? ⟨w.heap.size, 1, none⟩ = some (.pointer (some ⟨cb, 0, none⟩)) ∧ w'.cell? ⟨cb, 9, none⟩ = some (.slice (some ⟨g9, 0, none⟩) n c9) ∧ w'.cell? ⟨g9, k, none⟩ = some (.int .i64 (V 9))) (by kernel_rfl) ?_ (fun hHeld => ?_)
 · (try dsimp only)
   (first | (go_simp; done) | (go_keep; done))
 refine tq 0 hHeld ?_
 refine tq 1 hHeld ?_
 refine tq 2 hHeld ?_
 refine tq 3 hHeld ?_
 refine tq 4 hHeld ?_
 refine tq 5 hHeld ?_
 refine tq 6 hHeld ?_
 refine tq 7 hHeld ?_
 refine tq 8 hHeld ?_
 refine tq 9 hHeld ?_
 refine wpAnyH_done (by kernel_rfl) ?_ _
 go_wp2_with fail
 go_ret
 exact ⟨rfl, bel_a⟩
theorem kRub {cb n k : Nat} {V : Nat → Int} {G : Nat → Nat} {w : World} (h : HAt w cb n k V G) :
 Calls Tryz.prog 65 #[hdk cb k] w fun e w' => e = .returned (.int .i64 (V 10)) ∧ Below w.heap.size w w' := by
 have hset := cset_map
 have l1 := h.cbl
 have hkn := h.kn
 have hnl := h.nl
 obtain ⟨c10, hc10, hv10, _, l10g, lc10⟩ := h.col 10 (by omega)
 generalize G 10 = g10 at hc10 hv10 l10g lc10
 clear h
 go_enter Tryz.func65, Tryz.ntmps65
 go_upto_region 1 with fail
 refine wp_region_held_drew (S := fun w' => w'.cell? ⟨w.heap.size, 0, none⟩ = some (.int .i64 (k : Int)) ∧ w'.cell? ⟨w.heap.size, 1, none⟩ = some (.pointer (some ⟨cb, 0, none⟩)) ∧ w'.cell? ⟨cb, 10, none⟩ = some (.slice (some ⟨g10, 0, none⟩) n c10) ∧ w'.cell? ⟨g10, k, none⟩ = some (.int .i64 (V 10))) (by kernel_rfl) ?_ (fun hHeld => ?_)
 · (try dsimp only)
   (first | (go_simp; done) | (go_keep; done))
 refine tq 0 hHeld ?_
 refine tq 1 hHeld ?_
 refine tq 2 hHeld ?_
 refine tq 3 hHeld ?_
 refine tq 4 hHeld ?_
 refine tq 5 hHeld ?_
 refine tq 6 hHeld ?_
 refine tq 7 hHeld ?_
 refine tq 8 hHeld ?_
 refine tq 9 hHeld ?_
 refine wpAnyH_done (by kernel_rfl) ?_ _
 go_wp2_with fail
 go_ret
 exact ⟨rfl, bel_a⟩
theorem kQuiet {cb n k : Nat} {V : Nat → Int} {G : Nat → Nat} {w : World} (h : HAt w cb n k V G) :
 Calls Tryz.prog 49 #[hdk cb k] w fun e w' => e = .returned (.int .i64 (V 11)) ∧ Below w.heap.size w w' := by
 have hset := cset_map
 have l1 := h.cbl
 have hkn := h.kn
 have hnl := h.nl
 obtain ⟨c11, hc11, hv11, _, l11g, lc11⟩ := h.col 11 (by omega)
 generalize G 11 = g11 at hc11 hv11 l11g lc11
 clear h
 go_enter Tryz.func49, Tryz.ntmps49
 go_upto_region 1 with fail
 refine wp_region_held_drew (S := fun w' => w'.cell? ⟨w.heap.size, 0, none⟩ = some (.int .i64 (k : Int)) ∧ w'.cell? ⟨w.heap.size, 1, none⟩ = some (.pointer (some ⟨cb, 0, none⟩)) ∧ w'.cell? ⟨cb, 11, none⟩ = some (.slice (some ⟨g11, 0, none⟩) n c11) ∧ w'.cell? ⟨g11, k, none⟩ = some (.int .i64 (V 11))) (by kernel_rfl) ?_ (fun hHeld => ?_)
 · (try dsimp only)
   (first | (go_simp; done) | (go_keep; done))
 refine tq 0 hHeld ?_
 refine tq 1 hHeld ?_
 refine tq 2 hHeld ?_
 refine tq 3 hHeld ?_
 refine tq 4 hHeld ?_
 refine tq 5 hHeld ?_
 refine tq 6 hHeld ?_
 refine tq 7 hHeld ?_
 refine tq 8 hHeld ?_
 refine tq 9 hHeld ?_
 refine wpAnyH_done (by kernel_rfl) ?_ _
 go_wp2_with fail
 go_ret
 exact ⟨rfl, bel_a⟩
theorem kAt {cb n k : Nat} {V : Nat → Int} {G : Nat → Nat} {w : World} (h : HAt w cb n k V G) :
 Calls Tryz.prog 60 #[hdk cb k] w fun e w' => e = .returned (vv (V 4) (V 5)) ∧ Below w.heap.size w w' := by
 have hset := cset_map
 have l1 := h.cbl
 have hkn := h.kn
 have hnl := h.nl
 obtain ⟨c4, hc4, hv4, _, l4g, lc4⟩ := h.col 4 (by omega)
 generalize G 4 = g4 at hc4 hv4 l4g lc4
 obtain ⟨c5, hc5, hv5, _, l5g, lc5⟩ := h.col 5 (by omega)
 generalize G 5 = g5 at hc5 hv5 l5g lc5
 clear h
 go_enter Tryz.func60, Tryz.ntmps60
 go_upto_region 1 with fail
 refine wp_region_held_drew (S := fun w' => w'.cell? ⟨w.heap.size, 0, none⟩ = some (.int .i64 (k : Int)) ∧ w'.cell? ⟨w.heap.size, 1, none⟩ = some (.pointer (some ⟨cb, 0, none⟩)) ∧ w'.cell? ⟨cb, 4, none⟩ = some (.slice (some ⟨g4, 0, none⟩) n c4) ∧ w'.cell? ⟨g4, k, none⟩ = some (.int .i64 (V 4)) ∧ w'.cell? ⟨cb, 5, none⟩ = some (.slice (some ⟨g5, 0, none⟩) n c5) ∧ w'.cell? ⟨g5, k, none⟩ = some (.int .i64 (V 5))) (by kernel_rfl) ?_ (fun hHeld => ?_)
 · (try dsimp only)
   (first | (go_simp; done) | (go_keep; done))
 refine tq 0 hHeld ?_
 refine tq 1 hHeld ?_
 refine tq 2 hHeld ?_
 refine tq 3 hHeld ?_
 refine tq 4 hHeld ?_
 refine tq 5 hHeld ?_
 refine tq 6 hHeld ?_
 refine tq 7 hHeld ?_
 refine tq 8 hHeld ?_
 refine tq 9 hHeld ?_
 refine tq 10 hHeld ?_
 refine tq 11 hHeld ?_
 refine tq 12 hHeld ?_
 refine tq 13 hHeld ?_
 refine tq 14 hHeld ?_
 refine tq 15 hHeld ?_
 refine tq 16 hHeld ?_
 refine tq 17 hHeld ?_
 refine tq 18 hHeld ?_
 (refine tc 19 fun K hK => ?_; go_simp; refine tr hK (fun hHeld => ?_); clear hK K)
 refine wpAnyH_done (by kernel_rfl) ?_ _
 go_wp2_with fail
 exact bodyPost_ret (v := vv (V 4) (V 5)) (by simp [results, Tryz.results60, go_sem, *]) rfl ⟨rfl, bel_a⟩
theorem kDrive {cb n k : Nat} {V : Nat → Int} {G : Nat → Nat} {w : World} (h : HAt w cb n k V G) :
 Calls Tryz.prog 62 #[hdk cb k] w fun e w' => e = .returned (vv (V 6) (V 7)) ∧ Below w.heap.size w w' := by
 have hset := cset_map
 have l1 := h.cbl
 have hkn := h.kn
 have hnl := h.nl
 obtain ⟨c6, hc6, hv6, _, l6g, lc6⟩ := h.col 6 (by omega)
 generalize G 6 = g6 at hc6 hv6 l6g lc6
 obtain ⟨c7, hc7, hv7, _, l7g, lc7⟩ := h.col 7 (by omega)
 generalize G 7 = g7 at hc7 hv7 l7g lc7
 clear h
 go_enter Tryz.func62, Tryz.ntmps62
 go_upto_region 1 with fail
 refine wp_region_held_drew (S := fun w' => w'.cell? ⟨w.heap.size, 0, none⟩ = some (.int .i64 (k : Int)) ∧ w'.cell? ⟨w.heap.size, 1, none⟩ = some (.pointer (some ⟨cb, 0, none⟩)) ∧ w'.cell? ⟨cb, 6, none⟩ = some (.slice (some ⟨g6, 0, none⟩) n c6) ∧ w'.cell? ⟨g6, k, none⟩ = some (.int .i64 (V 6)) ∧ w'.cell? ⟨cb, 7, none⟩ = some (.slice (some ⟨g7, 0, none⟩) n c7) ∧ w'.cell? ⟨g7, k, none⟩ = some (.int .i64 (V 7))) (by kernel_rfl) ?_ (fun hHeld => ?_)
 · (try dsimp only)
   (first | (go_simp; done) | (go_keep; done))
 refine tq 0 hHeld ?_
 refine tq 1 hHeld ?_
 refine tq 2 hHeld ?_
 refine tq 3 hHeld ?_
 refine tq 4 hHeld ?_
 refine tq 5 hHeld ?_
 refine tq 6 hHeld ?_
 refine tq 7 hHeld ?_
 refine tq 8 hHeld ?_
 refine tq 9 hHeld ?_
 refine tq 10 hHeld ?_
 refine tq 11 hHeld ?_
 refine tq 12 hHeld ?_
 refine tq 13 hHeld ?_
 refine tq 14 hHeld ?_
 refine tq 15 hHeld ?_
 refine tq 16 hHeld ?_
 refine tq 17 hHeld ?_
 refine tq 18 hHeld ?_
 (refine tc 19 fun K hK => ?_; go_simp; refine tr hK (fun hHeld => ?_); clear hK K)
 refine wpAnyH_done (by kernel_rfl) ?_ _
 go_wp2_with fail
 exact bodyPost_ret (v := vv (V 6) (V 7)) (by simp [results, Tryz.results62, go_sem, *]) rfl ⟨rfl, bel_a⟩
theorem kShape {cb n k : Nat} {V : Nat → Int} {G : Nat → Nat} {w : World} (h : HAt w cb n k V G) :
 Calls Tryz.prog 59 #[hdk cb k] w fun e w' => e = .returned (s3 (V 1) (V 2) (V 3)) ∧ Below w.heap.size w w' := by
 have hset := cset_map
 have l1 := h.cbl
 have hkn := h.kn
 have hnl := h.nl
 obtain ⟨c1, hc1, hv1, _, l1g, lc1⟩ := h.col 1 (by omega)
 generalize G 1 = g1 at hc1 hv1 l1g lc1
 obtain ⟨c2, hc2, hv2, _, l2g, lc2⟩ := h.col 2 (by omega)
 generalize G 2 = g2 at hc2 hv2 l2g lc2
 obtain ⟨c3, hc3, hv3, _, l3g, lc3⟩ := h.col 3 (by omega)
 generalize G 3 = g3 at hc3 hv3 l3g lc3
 clear h
 go_enter Tryz.func59, Tryz.ntmps59
 go_upto_region 1 with fail
 refine wp_region_held_drew (S := fun w' => w'.cell? ⟨w.heap.size, 0, none⟩ = some (.int .i64 (k : Int)) ∧ w'.cell? ⟨w.heap.size, 1, none⟩ = some (.pointer (some ⟨cb, 0, none⟩)) ∧ w'.cell? ⟨cb, 1, none⟩ = some (.slice (some ⟨g1, 0, none⟩) n c1) ∧ w'.cell? ⟨g1, k, none⟩ = some (.int .i64 (V 1)) ∧ w'.cell? ⟨cb, 2, none⟩ = some (.slice (some ⟨g2, 0, none⟩) n c2) ∧ w'.cell? ⟨g2, k, none⟩ = some (.int .i64 (V 2)) ∧ w'.cell? ⟨cb, 3, none⟩ = some (.slice (some ⟨g3, 0, none⟩) n c3) ∧ w'.cell? ⟨g3, k, none⟩ = some (.int .i64 (V 3))) (by kernel_rfl) ?_ (fun hHeld => ?_)
 · (try dsimp only)
   (first | (go_simp; done) | (go_keep; done))
 refine tq 0 hHeld ?_
 refine tq 1 hHeld ?_
 refine tq 2 hHeld ?_
 refine tq 3 hHeld ?_
 refine tq 4 hHeld ?_
 refine tq 5 hHeld ?_
 refine tq 6 hHeld ?_
 refine tq 7 hHeld ?_
 refine tq 8 hHeld ?_
 refine tq 9 hHeld ?_
 refine tq 10 hHeld ?_
 refine tq 11 hHeld ?_
 refine tq 12 hHeld ?_
 refine tq 13 hHeld ?_
 refine tq 14 hHeld ?_
 refine tq 15 hHeld ?_
 refine tq 16 hHeld ?_
 refine tq 17 hHeld ?_
 refine tq 18 hHeld ?_
 refine tq 19 hHeld ?_
 refine tq 20 hHeld ?_
 refine tq 21 hHeld ?_
 refine tq 22 hHeld ?_
 refine tq 23 hHeld ?_
 refine tq 24 hHeld ?_
 refine tq 25 hHeld ?_
 refine tq 26 hHeld ?_
 refine tq 27 hHeld ?_
 (refine tc 28 fun K hK => ?_; go_simp; refine tr hK (fun hHeld => ?_); clear hK K)
 refine wpAnyH_done (by kernel_rfl) ?_ _
 go_wp2_with fail
 exact bodyPost_ret (v := s3 (V 1) (V 2) (V 3)) (by simp [results, Tryz.results59, go_sem, *]) rfl ⟨rfl, bel_a⟩
theorem kFixed {cb n k : Nat} {V : Nat → Int} {G : Nat → Nat} {w : World} (h : HAt w cb n k V G) :
 Calls Tryz.prog 42 #[hdk cb k] w fun e w' => e = .returned (.bool (decide (V 8 = 0))) ∧ Below w.heap.size w w' := by
 have hset := cset_map
 have h' : HAt (w.alloc (.cells #[.int .i64 (k : Int), .pointer (some ⟨cb, 0, none⟩)] 60)) cb n k V G := h.below (bel_a)
 go_enter Tryz.func42, Tryz.ntmps42
 go_wp2_with (go_at_call 63; refine (kMass h').mono ?_; rintro e w1 ⟨rfl, hb1⟩; obtain ⟨hc1, hf1⟩ := bcell hb1; have hz1 := hb1.size; (try simp only [World.size_drew, World.size_alloc, World.size_setCell] at hc1 hf1 hz1); have hk1x0 := fun o => hc1 (w.heap.size) o (by omega); have hj1x0 := fun o => hf1 (w.heap.size) o (by omega); have hq1x0 : w.heap.size < w1.heap.size := (by omega); clear hc1 hf1)
 go_ret
 exact ⟨rfl, bel_a⟩
theorem kSleeps {cb n k : Nat} {V : Nat → Int} {G : Nat → Nat} {w : World} (h : HAt w cb n k V G) :
 Calls Tryz.prog 28 #[hdk cb k] w fun e w' => e = .returned (.bool (decide (V 11 = 8))) ∧ Below w.heap.size w w' := by
 have hset := cset_map
 have h' : HAt (w.alloc (.cells #[.int .i64 (k : Int), .pointer (some ⟨cb, 0, none⟩)] 60)) cb n k V G := h.below (bel_a)
 go_enter Tryz.func28, Tryz.ntmps28
 go_wp2_with (go_at_call 49; refine (kQuiet h').mono ?_; rintro e w1 ⟨rfl, hb1⟩; obtain ⟨hc1, hf1⟩ := bcell hb1; have hz1 := hb1.size; (try simp only [World.size_drew, World.size_alloc, World.size_setCell] at hc1 hf1 hz1); have hk1x0 := fun o => hc1 (w.heap.size) o (by omega); have hj1x0 := fun o => hf1 (w.heap.size) o (by omega); have hq1x0 : w.heap.size < w1.heap.size := (by omega); clear hc1 hf1)
 go_ret
 exact ⟨rfl, bel_a⟩
end Go.Proofs.YtalkkjhehndaoaaGreat
namespace Go.Proofs.YtalkkjhehndaoaaGreat
open Go.RowKit
set_option linter.unusedVariables false
theorem kfa {W w1 : World} (hb : Below W.heap.size W w1) (b : Nat) (h : b < W.heap.size := by ((try simp only [World.size_drew, World.size_alloc, World.size_setCell]); omega)) :
 (∀ o, w1.cell? ⟨b, o, none⟩ = W.cell? ⟨b, o, none⟩) ∧ (∀ o, w1.frozen? ⟨b, o, none⟩ = W.frozen? ⟨b, o, none⟩) ∧ b < w1.heap.size :=
 ⟨fun o => hb.cell (p := ⟨b, o, none⟩) h, fun o => hb.frozen (p := ⟨b, o, none⟩) h, Nat.lt_of_lt_of_le h hb.size⟩
end Go.Proofs.YtalkkjhehndaoaaGreat
