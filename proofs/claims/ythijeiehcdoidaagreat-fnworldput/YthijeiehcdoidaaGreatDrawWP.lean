/- Texts of a proof. -/
import Derived.Test.YthijeiehcdoidaaGreatB36
import Derived.Test.YthijeiehcdoidaaGreatB21
import Derived.Deep.RegionHeld3
import Derived.Deep.DeepCutAuto
set_option maxHeartbeats 16000000
set_option maxRecDepth 20000
namespace Go.Proofs.YthijeiehcdoidaaGreat
open Go.RowKit
set_option linter.unusedVariables false
set_option linter.unusedSimpArgs false
theorem own_ne {w : World} {B t t' k k' n n' : Nat} {v v' : Value} {U U' : Nat → Int} (h : OwnL w B t k v n U) (h' : OwnL w B t' k' v' n' U') (ht : t ≠ t') : ∀ b, v.ownBlock = some b → v'.ownBlock ≠ some b := by
 intro b e e'
 rcases h.2 with ⟨hv, _⟩ | ⟨g, cap, cur, hv, _, hg, _⟩
 · subst hv; cases e
 · rcases h'.2 with ⟨hv', _⟩ | ⟨g', cap', cur', hv', _, hg', _⟩
   · subst hv'; cases e'
   · subst hv hv'
     simp only [Value.ownBlock, Option.some.injEq] at e e'
     subst e e'
     rw [hg] at hg'
     simp only [Option.some.injEq, Obj.cells.injEq] at hg'
     exact ht hg'.2.1
def DrWP (w : World) (e : Ending) (w' : World) : Prop := ∃ (T P : Int) (a : Option Addr) (n c : Nat) (U : Nat → Int) (a' : Option Addr) (m c' : Nat) (Q V : Nat → Int), e = .returned (.tuple #[worldW T P a n c a' m c', bodyW V]) ∧ n ≤ 13 ∧ m ≤ 433 ∧ Below w.heap.size w w' ∧ OwnL w' w.heap.size 41 12 (.slice a n c) n U ∧ OwnL w' w.heap.size 58 2 (.slice a' m c') m Q ∧ (∀ b, (Value.slice a n c).ownBlock = some b → (Value.slice a' m c').ownBlock ≠ some b)
theorem drawWorldPut_k (ac : Option Addr) (len cap : Nat) (w : World) (hb : Bytes w ac len cap) :
 Calls Tryz.prog 10 #[.slice ac len cap] w fun e w' => DrWP w e w' := by
 have hset := cset_map
 have hE : Below w.heap.size w ((w.alloc (.cells #[.int .i64 0, .int .i64 0, .slice none 0 0, .slice none 0 0] 26)).alloc (.cells #[.int .i64 0, .int .i64 0, .int .i64 0, .int .i64 0, .int .i64 0, .int .i64 0, .int .i64 0, .int .i64 0, .int .i64 0, .int .i64 0, .int .i64 0, .int .i64 0] 41)) := ((Below.refl _ _).alloc (Nat.le_refl _) _).alloc (by simp) _
 have hb0 := hb.below hE
 have hz : ((w.alloc (.cells #[.int .i64 0, .int .i64 0, .slice none 0 0, .slice none 0 0] 26)).alloc (.cells #[.int .i64 0, .int .i64 0, .int .i64 0, .int .i64 0, .int .i64 0, .int .i64 0, .int .i64 0, .int .i64 0, .int .i64 0, .int .i64 0, .int .i64 0, .int .i64 0] 41)).heap.size = w.heap.size + 2 := by simp
 have hA : Blk ((w.alloc (.cells #[.int .i64 0, .int .i64 0, .slice none 0 0, .slice none 0 0] 26)).alloc (.cells #[.int .i64 0, .int .i64 0, .int .i64 0, .int .i64 0, .int .i64 0, .int .i64 0, .int .i64 0, .int .i64 0, .int .i64 0, .int .i64 0, .int .i64 0, .int .i64 0] 41)) w.heap.size #[.int .i64 0, .int .i64 0, .slice none 0 0, .slice none 0 0] 26 := (Blk.new w _ _).al _
 have hB : Blk ((w.alloc (.cells #[.int .i64 0, .int .i64 0, .slice none 0 0, .slice none 0 0] 26)).alloc (.cells #[.int .i64 0, .int .i64 0, .int .i64 0, .int .i64 0, .int .i64 0, .int .i64 0, .int .i64 0, .int .i64 0, .int .i64 0, .int .i64 0, .int .i64 0, .int .i64 0] 41)) (w.heap.size + 1) #[.int .i64 0, .int .i64 0, .int .i64 0, .int .i64 0, .int .i64 0, .int .i64 0, .int .i64 0, .int .i64 0, .int .i64 0, .int .i64 0, .int .i64 0, .int .i64 0] 41 := by have q := Blk.new (w.alloc (.cells #[.int .i64 0, .int .i64 0, .slice none 0 0, .slice none 0 0] 26)) #[.int .i64 0, .int .i64 0, .int .i64 0, .int .i64 0, .int .i64 0, .int .i64 0, .int .i64 0, .int .i64 0, .int .i64 0, .int .i64 0, .int .i64 0, .int .i64 0] 41; rw [World.size_alloc] at q; exact q
 go_enter Tryz.func10, Tryz.ntmps10
 go_upto_region 1 with fail
 generalize ((w.alloc (.cells #[.int .i64 0, .int .i64 0, .slice none 0 0, .slice none 0 0] 26)).alloc (.cells #[.int .i64 0, .int .i64 0, .int .i64 0, .int .i64 0, .int .i64 0, .int .i64 0, .int .i64 0, .int .i64 0, .int .i64 0, .int .i64 0, .int .i64 0, .int .i64 0] 41)) = w0 at hE hb0 hz hA hB ⊢
 go_cut [4] (fun s wc => ∃ rb : Nat, s = .pointer (some ⟨rb, 0, none⟩) ∧ w.heap.size + 2 ≤ rb ∧ RS wc rb (0) ∧ Below w.heap.size w wc ∧ Blk wc (w.heap.size) #[.int .i64 0, .int .i64 0, .slice none 0 0, .slice none 0 0] 26 ∧ Blk wc (w.heap.size + 1) #[.int .i64 0, .int .i64 0, .int .i64 0, .int .i64 0, .int .i64 0, .int .i64 0, .int .i64 0, .int .i64 0, .int .i64 0, .int .i64 0, .int .i64 0, .int .i64 0] 41)
 case first =>
  go_wp2_with (go_at_call 16; refine (l1Open_rb _ _ _ _ hb0).mono ?_; rintro e w1 ⟨rfl, hr1, hbel⟩)
  go_meet
  rw [hz] at hr1
  exact ⟨_, rfl, by omega, hr1.rs, hE.trans (hbel.mono hE.size), hA.on hbel, hB.on hbel⟩
 case rest =>
 clear hE hb0 hz hA hB
 obtain ⟨rb, rfl, hlo, hS, hW, hA, hB⟩ := hcut
 have hlt := hS.lt
 go_upto_region 2 with fail
 go_cut [5] (fun s wc => ∃ (vb B0 : Nat) (T P : Int) (a : Option Addr) (n c : Nat) (U : Nat → Int) (a' : Option Addr) (m c' : Nat) (Q : Nat → Int), s = .pointer (some ⟨vb, 0, none⟩) ∧ (n ≤ 13 ∧ m ≤ 433) ∧ rb < B0 ∧ B0 ≤ vb ∧ RS wc rb (71100) ∧ Below w.heap.size w wc ∧ Blk wc (w.heap.size) #[.int .i64 0, .int .i64 0, .slice none 0 0, .slice none 0 0] 26 ∧ Blk wc (w.heap.size + 1) #[.int .i64 0, .int .i64 0, .int .i64 0, .int .i64 0, .int .i64 0, .int .i64 0, .int .i64 0, .int .i64 0, .int .i64 0, .int .i64 0, .int .i64 0, .int .i64 0] 41 ∧ Blk wc (vb) #[.int .i64 T, .int .i64 P, .slice a n c, .slice a' m c'] 26 ∧ OwnL wc B0 41 12 (.slice a n c) n U ∧ OwnL wc B0 58 2 (.slice a' m c') m Q)
 case first =>
  go_wp2_with (go_at_call 17; refine (l11AnyWorld_w rb 0 _ (by exact hS) (by omega)).mono ?_; rintro e w1 ⟨T, P, a, n, c, U, a', m, c', Q, rfl, hnm, hD⟩)
  go_meet
  have hr1 := RB.mk hD.but hD.rs
  have hO := hD.ob
  have hQ := hD.op
  have hszz := hD.sz
  replace hA := hA.but (RB.but hr1) (by omega)
  replace hB := hB.but (RB.but hr1) (by omega)
  replace hW := hW.trans (hr1.old (by omega) hW.size)
  replace hS := hr1.rs
  replace hA := hA.al (.cells #[.int .i64 T, .int .i64 P, .slice a n c, .slice a' m c'] 26)
  replace hB := hB.al (.cells #[.int .i64 T, .int .i64 P, .slice a n c, .slice a' m c'] 26)
  replace hW := hW.alloc hW.size (.cells #[.int .i64 T, .int .i64 P, .slice a n c, .slice a' m c'] 26)
  replace hS := hS.alloc (.cells #[.int .i64 T, .int .i64 P, .slice a n c, .slice a' m c'] 26)
  exact ⟨_, _, T, P, a, n, c, U, a', m, c', Q, rfl, hnm, Nat.lt_succ_of_lt hlt, hszz, hS.mono (by omega), hW, hA, hB, Blk.new _ _ _, hO.al _, hQ.al _⟩
 case rest =>
 clear hS hW hA hB hlt
 obtain ⟨vb, B0, T, P, a, n, c, U, a', m, c', Q, rfl, hnm, hB0, hvb, hS, hW, hA, hB, hV, hO, hQ⟩ := hcut
 have hNE : ∀ b, (Value.slice a n c).ownBlock = some b → (Value.slice a' m c').ownBlock ≠ some b := own_ne hO hQ (by decide)
 go_upto_region 3 with fail
 go_cut [6] (fun s wc => ∃ (xb : Nat) (V : Nat → Int), s = .pointer (some ⟨xb, 0, none⟩) ∧ vb < xb ∧ (∀ b, (Value.slice a n c).ownBlock = some b → b ≠ xb) ∧ RS wc rb (74100) ∧ Below w.heap.size w wc ∧ Blk wc (w.heap.size) #[.int .i64 0, .int .i64 0, .slice none 0 0, .slice none 0 0] 26 ∧ Blk wc (w.heap.size + 1) #[.int .i64 0, .int .i64 0, .int .i64 0, .int .i64 0, .int .i64 0, .int .i64 0, .int .i64 0, .int .i64 0, .int .i64 0, .int .i64 0, .int .i64 0, .int .i64 0] 41 ∧ Blk wc (vb) #[.int .i64 T, .int .i64 P, .slice a n c, .slice a' m c'] 26 ∧ Blk wc (xb) #[.int .i64 (V 0), .int .i64 (V 1), .int .i64 (V 2), .int .i64 (V 3), .int .i64 (V 4), .int .i64 (V 5), .int .i64 (V 6), .int .i64 (V 7), .int .i64 (V 8), .int .i64 (V 9), .int .i64 (V 10), .int .i64 (V 11)] 41 ∧ OwnL wc B0 41 12 (.slice a n c) n U ∧ OwnL wc B0 58 2 (.slice a' m c') m Q)
 case first =>
  go_wp2_with (go_at_call 31; refine (l11AnyBody_s rb 71100 _ (by exact hS) (by omega)).mono ?_; rintro e w1 ⟨V, rfl, hBN, hr1⟩)
  go_meet
  replace hA := hA.but (RB.but hr1) (by omega)
  replace hB := hB.but (RB.but hr1) (by omega)
  replace hV := hV.but (RB.but hr1) (by omega)
  replace hO := hO.btb (RB.but hr1) hB0
  replace hQ := hQ.btb (RB.but hr1) hB0
  replace hW := hW.trans (hr1.old (by omega) hW.size)
  replace hS := hr1.rs
  have hxb := hV.lt
  have hOx := fun b e => (hO.lt b e).2
  replace hA := hA.al (.cells #[.int .i64 (V 0), .int .i64 (V 1), .int .i64 (V 2), .int .i64 (V 3), .int .i64 (V 4), .int .i64 (V 5), .int .i64 (V 6), .int .i64 (V 7), .int .i64 (V 8), .int .i64 (V 9), .int .i64 (V 10), .int .i64 (V 11)] 41)
  replace hB := hB.al (.cells #[.int .i64 (V 0), .int .i64 (V 1), .int .i64 (V 2), .int .i64 (V 3), .int .i64 (V 4), .int .i64 (V 5), .int .i64 (V 6), .int .i64 (V 7), .int .i64 (V 8), .int .i64 (V 9), .int .i64 (V 10), .int .i64 (V 11)] 41)
  replace hV := hV.al (.cells #[.int .i64 (V 0), .int .i64 (V 1), .int .i64 (V 2), .int .i64 (V 3), .int .i64 (V 4), .int .i64 (V 5), .int .i64 (V 6), .int .i64 (V 7), .int .i64 (V 8), .int .i64 (V 9), .int .i64 (V 10), .int .i64 (V 11)] 41)
  replace hO := hO.al (.cells #[.int .i64 (V 0), .int .i64 (V 1), .int .i64 (V 2), .int .i64 (V 3), .int .i64 (V 4), .int .i64 (V 5), .int .i64 (V 6), .int .i64 (V 7), .int .i64 (V 8), .int .i64 (V 9), .int .i64 (V 10), .int .i64 (V 11)] 41)
  replace hQ := hQ.al (.cells #[.int .i64 (V 0), .int .i64 (V 1), .int .i64 (V 2), .int .i64 (V 3), .int .i64 (V 4), .int .i64 (V 5), .int .i64 (V 6), .int .i64 (V 7), .int .i64 (V 8), .int .i64 (V 9), .int .i64 (V 10), .int .i64 (V 11)] 41)
  replace hW := hW.alloc hW.size (.cells #[.int .i64 (V 0), .int .i64 (V 1), .int .i64 (V 2), .int .i64 (V 3), .int .i64 (V 4), .int .i64 (V 5), .int .i64 (V 6), .int .i64 (V 7), .int .i64 (V 8), .int .i64 (V 9), .int .i64 (V 10), .int .i64 (V 11)] 41)
  replace hS := hS.alloc (.cells #[.int .i64 (V 0), .int .i64 (V 1), .int .i64 (V 2), .int .i64 (V 3), .int .i64 (V 4), .int .i64 (V 5), .int .i64 (V 6), .int .i64 (V 7), .int .i64 (V 8), .int .i64 (V 9), .int .i64 (V 10), .int .i64 (V 11)] 41)
  exact ⟨_, V, rfl, hxb, (fun b e => by have := hOx b e; omega), hS.mono (by omega), hW, hA, hB, hV, Blk.new _ _ _, hO, hQ⟩
 case rest =>
 clear hS hW hA hB hV hO hQ
 obtain ⟨xb, V, rfl, hxb, hOx, hS, hW, hA, hB, hV, hX, hO, hQ⟩ := hcut
 rename_i hKK
 refine hKK _ _ ?_
 refine wp_seq_k (fun K8 hK8 => ?_)
 go_cut [] (fun wc => ∃ V : Nat → Int, RS wc rb (74110) ∧ Below w.heap.size w wc ∧ Blk wc (w.heap.size) #[.int .i64 0, .int .i64 0, .slice none 0 0, .slice none 0 0] 26 ∧ Blk wc (w.heap.size + 1) #[.int .i64 0, .int .i64 0, .int .i64 0, .int .i64 0, .int .i64 0, .int .i64 0, .int .i64 0, .int .i64 0, .int .i64 0, .int .i64 0, .int .i64 0, .int .i64 0] 41 ∧ Blk wc (vb) #[.int .i64 T, .int .i64 P, .slice a n c, .slice a' m c'] 26 ∧ Blk wc (xb) #[.int .i64 (V 0), .int .i64 (V 1), .int .i64 (V 2), .int .i64 (V 3), .int .i64 (V 4), .int .i64 (V 5), .int .i64 (V 6), .int .i64 (V 7), .int .i64 (V 8), .int .i64 (V 9), .int .i64 (V 10), .int .i64 (V 11)] 41 ∧ OwnL wc B0 41 12 (.slice a n c) n U ∧ OwnL wc B0 58 2 (.slice a' m c') m Q)
 case first =>
  go_upto_region 4 with fail
  go_cut [15] (fun s wc => ∃ z : Bool, s = .bool z ∧ RS wc rb (74103) ∧ Below w.heap.size w wc ∧ Blk wc (w.heap.size) #[.int .i64 0, .int .i64 0, .slice none 0 0, .slice none 0 0] 26 ∧ Blk wc (w.heap.size + 1) #[.int .i64 0, .int .i64 0, .int .i64 0, .int .i64 0, .int .i64 0, .int .i64 0, .int .i64 0, .int .i64 0, .int .i64 0, .int .i64 0, .int .i64 0, .int .i64 0] 41 ∧ Blk wc (vb) #[.int .i64 T, .int .i64 P, .slice a n c, .slice a' m c'] 26 ∧ Blk wc (xb) #[.int .i64 (V 0), .int .i64 (V 1), .int .i64 (V 2), .int .i64 (V 3), .int .i64 (V 4), .int .i64 (V 5), .int .i64 (V 6), .int .i64 (V 7), .int .i64 (V 8), .int .i64 (V 9), .int .i64 (V 10), .int .i64 (V 11)] 41 ∧ OwnL wc B0 41 12 (.slice a n c) n U ∧ OwnL wc B0 58 2 (.slice a' m c') m Q)
  case first =>
   go_wp2_with (go_at_call 19; refine (pick_s rb (74100) _ _ (by exact hS) (by omega) (by omega) (by omega)).mono ?_; rintro e w2 ⟨v2, rfl, va2, vb2, hr2⟩)
   go_meet
   replace hA := hA.but (RB.but hr2) (by omega)
   replace hB := hB.but (RB.but hr2) (by omega)
   replace hV := hV.but (RB.but hr2) (by omega)
   replace hX := hX.but (RB.but hr2) (by omega)
   replace hO := hO.btb (RB.but hr2) hB0
   replace hQ := hQ.btb (RB.but hr2) hB0
   replace hW := hW.trans (hr2.old (by omega) hW.size)
   replace hS := hr2.rs
   exact ⟨_, rfl, hS.mono (by omega), hW, hA, hB, hV, hX, hO, hQ⟩
  case rest =>
  clear hS hW hA hB hV hX hO hQ
  obtain ⟨z, rfl, hS, hW, hA, hB, hV, hX, hO, hQ⟩ := hcut
  cases z with
  | false =>
   go_wp2_with fail
   go_meet
   exact ⟨V, hS.mono (by omega), hW, hA, hB, hV, hX, hO, hQ⟩
  | true =>
   go_wp2_with (go_at_call 19; refine (pick_s rb (74103) _ _ (by exact hS) (by omega) (by omega) (by omega)).mono ?_; rintro e w2 ⟨v2, rfl, va2, vb2, hr2⟩; have hwr : IntKind.i64.wrap (30 + v2) = 30 + v2 := i64w (by omega); replace hA := hA.but (RB.but hr2) (by omega); replace hB := hB.but (RB.but hr2) (by omega); replace hV := hV.but (RB.but hr2) (by omega); replace hX := hX.but (RB.but hr2) (by omega); replace hO := hO.btb (RB.but hr2) hB0; replace hQ := hQ.btb (RB.but hr2) hB0; replace hW := hW.trans (hr2.old (by omega) hW.size); replace hS := hr2.rs; have hXc0 := hX.cell 0 rfl; have hXf := hX.f 0)
   clear hXc0 hXf
   replace hO := hO.stb (b := xb) (o := 0) (fun e => hOx _ e rfl) (.int .i64 (30 + v2))
   replace hQ := hQ.stb (b := xb) (o := 0) (hX.ne hQ (show 58 ≠ 41 by decide)) (.int .i64 (30 + v2))
   replace hA := hA.far (b' := xb) (o := 0) (by omega) (.int .i64 (30 + v2))
   replace hB := hB.far (b' := xb) (o := 0) (by omega) (.int .i64 (30 + v2))
   replace hV := hV.far (b' := xb) (o := 0) (by omega) (.int .i64 (30 + v2))
   replace hX := hX.put 0 (.int .i64 (30 + v2))
   replace hW := hW.setCell (p := ⟨xb, 0, none⟩) (by show w.heap.size ≤ xb; omega) (.int .i64 (30 + v2))
   replace hS := hS.setNew (a := ⟨xb, 0, none⟩) (by show rb < xb; omega) (.int .i64 (30 + v2))
   go_meet
   exact ⟨(fun j => [30 + v2, V 1, V 2, V 3, V 4, V 5, V 6, V 7, V 8, V 9, V 10, V 11].getD j 0), hS.mono (by omega), hW, hA, hB, hV, hX, hO, hQ⟩
 case rest =>
 clear hS hW hA hB hV hX hO hQ
 obtain ⟨V, hS, hW, hA, hB, hV, hX, hO, hQ⟩ := hcut
 refine hK8 _ _ ?_
 have hVc0 := hV.cell 0 rfl
 have hVc1 := hV.cell 1 rfl
 have hVc2 := hV.cell 2 rfl
 have hVc3 := hV.cell 3 rfl
 have hXc0 := hX.cell 0 rfl
 have hXc1 := hX.cell 1 rfl
 have hXc2 := hX.cell 2 rfl
 have hXc3 := hX.cell 3 rfl
 have hXc4 := hX.cell 4 rfl
 have hXc5 := hX.cell 5 rfl
 have hXc6 := hX.cell 6 rfl
 have hXc7 := hX.cell 7 rfl
 have hXc8 := hX.cell 8 rfl
 have hXc9 := hX.cell 9 rfl
 have hXc10 := hX.cell 10 rfl
 have hXc11 := hX.cell 11 rfl
 go_upto_region 6 with fail
 refine wp_region_held_drew (S := fun w' => w'.cell? ⟨vb, 0, none⟩ = some (.int .i64 T) ∧ w'.cell? ⟨vb, 1, none⟩ = some (.int .i64 P) ∧ w'.cell? ⟨vb, 2, none⟩ = some (.slice a n c) ∧ w'.cell? ⟨vb, 3, none⟩ = some (.slice a' m c') ∧ w'.cell? ⟨xb, 0, none⟩ = some (.int .i64 (V 0)) ∧ w'.cell? ⟨xb, 1, none⟩ = some (.int .i64 (V 1)) ∧ w'.cell? ⟨xb, 2, none⟩ = some (.int .i64 (V 2)) ∧ w'.cell? ⟨xb, 3, none⟩ = some (.int .i64 (V 3)) ∧ w'.cell? ⟨xb, 4, none⟩ = some (.int .i64 (V 4)) ∧ w'.cell? ⟨xb, 5, none⟩ = some (.int .i64 (V 5)) ∧ w'.cell? ⟨xb, 6, none⟩ = some (.int .i64 (V 6)) ∧ w'.cell? ⟨xb, 7, none⟩ = some (.int .i64 (V 7)) ∧ w'.cell? ⟨xb, 8, none⟩ = some (.int .i64 (V 8)) ∧ w'.cell? ⟨xb, 9, none⟩ = some (.int .i64 (V 9)) ∧ w'.cell? ⟨xb, 10, none⟩ = some (.int .i64 (V 10)) ∧ w'.cell? ⟨xb, 11, none⟩ = some (.int .i64 (V 11))) (by kernel_rfl) ?_ (fun hHeld => ?_)
 · (try dsimp only)
   (first | (go_simp; done) | (go_keep; done))
 refine tq 0 hHeld ?_
 refine tq 1 hHeld ?_
 refine tc 2 fun K hK => ?_
 (have bc0 := hA.cell 0 rfl
  have bc1 := hA.cell 1 rfl
  have bc2 := hA.cell 2 rfl
  have bc3 := hA.cell 3 rfl
  have bf := hA.f
  go_simp
  clear bf bc0 bc1 bc2 bc3 hVc0 hVc1 hVc2 hVc3 hXc0 hXc1 hXc2 hXc3 hXc4 hXc5 hXc6 hXc7 hXc8 hXc9 hXc10 hXc11
  clear hS
  replace hO := hO.stb (b := w.heap.size) (o := 0) (hA.ne hO (show 41 ≠ 26 by decide)) (.int .i64 T)
  replace hQ := hQ.stb (b := w.heap.size) (o := 0) (hA.ne hQ (show 58 ≠ 26 by decide)) (.int .i64 T)
  replace hB := hB.far (b' := w.heap.size) (o := 0) (by omega) (.int .i64 T)
  replace hV := hV.far (b' := w.heap.size) (o := 0) (by omega) (.int .i64 T)
  replace hX := hX.far (b' := w.heap.size) (o := 0) (by omega) (.int .i64 T)
  replace hA := hA.put 0 (.int .i64 T)
  replace hW := hW.setCell (p := ⟨w.heap.size, 0, none⟩) (by show w.heap.size ≤ w.heap.size; omega) (.int .i64 T)
  replace hO := hO.stb (b := w.heap.size) (o := 1) (hA.ne hO (show 41 ≠ 26 by decide)) (.int .i64 P)
  replace hQ := hQ.stb (b := w.heap.size) (o := 1) (hA.ne hQ (show 58 ≠ 26 by decide)) (.int .i64 P)
  replace hB := hB.far (b' := w.heap.size) (o := 1) (by omega) (.int .i64 P)
  replace hV := hV.far (b' := w.heap.size) (o := 1) (by omega) (.int .i64 P)
  replace hX := hX.far (b' := w.heap.size) (o := 1) (by omega) (.int .i64 P)
  replace hA := hA.put 1 (.int .i64 P)
  replace hW := hW.setCell (p := ⟨w.heap.size, 1, none⟩) (by show w.heap.size ≤ w.heap.size; omega) (.int .i64 P)
  replace hO := hO.stb (b := w.heap.size) (o := 2) (hA.ne hO (show 41 ≠ 26 by decide)) (.slice a n c)
  replace hQ := hQ.stb (b := w.heap.size) (o := 2) (hA.ne hQ (show 58 ≠ 26 by decide)) (.slice a n c)
  replace hB := hB.far (b' := w.heap.size) (o := 2) (by omega) (.slice a n c)
  replace hV := hV.far (b' := w.heap.size) (o := 2) (by omega) (.slice a n c)
  replace hX := hX.far (b' := w.heap.size) (o := 2) (by omega) (.slice a n c)
  replace hA := hA.put 2 (.slice a n c)
  replace hW := hW.setCell (p := ⟨w.heap.size, 2, none⟩) (by show w.heap.size ≤ w.heap.size; omega) (.slice a n c)
  replace hO := hO.stb (b := w.heap.size) (o := 3) (hA.ne hO (show 41 ≠ 26 by decide)) (.slice a' m c')
  replace hQ := hQ.stb (b := w.heap.size) (o := 3) (hA.ne hQ (show 58 ≠ 26 by decide)) (.slice a' m c')
  replace hB := hB.far (b' := w.heap.size) (o := 3) (by omega) (.slice a' m c')
  replace hV := hV.far (b' := w.heap.size) (o := 3) (by omega) (.slice a' m c')
  replace hX := hX.far (b' := w.heap.size) (o := 3) (by omega) (.slice a' m c')
  replace hA := hA.put 3 (.slice a' m c')
  replace hW := hW.setCell (p := ⟨w.heap.size, 3, none⟩) (by show w.heap.size ≤ w.heap.size; omega) (.slice a' m c')
  replace hA := hA.dr
  replace hB := hB.dr
  replace hV := hV.dr
  replace hX := hX.dr
  replace hO := hO.dr
  replace hQ := hQ.dr
  replace hW := hW.drew
  generalize ((((wc.setCell ⟨w.heap.size, 0, none⟩ (.int .i64 T)).setCell ⟨w.heap.size, 1, none⟩ (.int .i64 P)).setCell ⟨w.heap.size, 2, none⟩ (.slice a n c)).setCell ⟨w.heap.size, 3, none⟩ (.slice a' m c')).drew = w20 at hW hA hB hV hX hO hQ ⊢
  simp only [List.setIfInBounds_toArray, List.set_cons_zero, List.set_cons_succ] at hA
  have hVc0 := hV.cell 0 rfl
  have hVc1 := hV.cell 1 rfl
  have hVc2 := hV.cell 2 rfl
  have hVc3 := hV.cell 3 rfl
  have hXc0 := hX.cell 0 rfl
  have hXc1 := hX.cell 1 rfl
  have hXc2 := hX.cell 2 rfl
  have hXc3 := hX.cell 3 rfl
  have hXc4 := hX.cell 4 rfl
  have hXc5 := hX.cell 5 rfl
  have hXc6 := hX.cell 6 rfl
  have hXc7 := hX.cell 7 rfl
  have hXc8 := hX.cell 8 rfl
  have hXc9 := hX.cell 9 rfl
  have hXc10 := hX.cell 10 rfl
  have hXc11 := hX.cell 11 rfl
  refine tr hK (fun hHeld => ?_)
  clear hK K)
 refine tc 3 fun K hK => ?_
 (have bc0 := hB.cell 0 rfl
  have bc1 := hB.cell 1 rfl
  have bc2 := hB.cell 2 rfl
  have bc3 := hB.cell 3 rfl
  have bc4 := hB.cell 4 rfl
  have bc5 := hB.cell 5 rfl
  have bc6 := hB.cell 6 rfl
  have bc7 := hB.cell 7 rfl
  have bc8 := hB.cell 8 rfl
  have bc9 := hB.cell 9 rfl
  have bc10 := hB.cell 10 rfl
  have bc11 := hB.cell 11 rfl
  have bf := hB.f
  go_simp
  clear bf bc0 bc1 bc2 bc3 bc4 bc5 bc6 bc7 bc8 bc9 bc10 bc11 hVc0 hVc1 hVc2 hVc3 hXc0 hXc1 hXc2 hXc3 hXc4 hXc5 hXc6 hXc7 hXc8 hXc9 hXc10 hXc11
  replace hO := hO.stb (b := w.heap.size + 1) (o := 0) (by intro e; have := (hO.lt _ e).1; omega) (.int .i64 (V 0))
  replace hQ := hQ.stb (b := w.heap.size + 1) (o := 0) (hB.ne hQ (show 58 ≠ 41 by decide)) (.int .i64 (V 0))
  replace hA := hA.far (b' := w.heap.size + 1) (o := 0) (by omega) (.int .i64 (V 0))
  replace hV := hV.far (b' := w.heap.size + 1) (o := 0) (by omega) (.int .i64 (V 0))
  replace hX := hX.far (b' := w.heap.size + 1) (o := 0) (by omega) (.int .i64 (V 0))
  replace hB := hB.put 0 (.int .i64 (V 0))
  replace hW := hW.setCell (p := ⟨w.heap.size + 1, 0, none⟩) (by show w.heap.size ≤ w.heap.size + 1; omega) (.int .i64 (V 0))
  replace hO := hO.stb (b := w.heap.size + 1) (o := 1) (by intro e; have := (hO.lt _ e).1; omega) (.int .i64 (V 1))
  replace hQ := hQ.stb (b := w.heap.size + 1) (o := 1) (hB.ne hQ (show 58 ≠ 41 by decide)) (.int .i64 (V 1))
  replace hA := hA.far (b' := w.heap.size + 1) (o := 1) (by omega) (.int .i64 (V 1))
  replace hV := hV.far (b' := w.heap.size + 1) (o := 1) (by omega) (.int .i64 (V 1))
  replace hX := hX.far (b' := w.heap.size + 1) (o := 1) (by omega) (.int .i64 (V 1))
  replace hB := hB.put 1 (.int .i64 (V 1))
  replace hW := hW.setCell (p := ⟨w.heap.size + 1, 1, none⟩) (by show w.heap.size ≤ w.heap.size + 1; omega) (.int .i64 (V 1))
  replace hO := hO.stb (b := w.heap.size + 1) (o := 2) (by intro e; have := (hO.lt _ e).1; omega) (.int .i64 (V 2))
  replace hQ := hQ.stb (b := w.heap.size + 1) (o := 2) (hB.ne hQ (show 58 ≠ 41 by decide)) (.int .i64 (V 2))
  replace hA := hA.far (b' := w.heap.size + 1) (o := 2) (by omega) (.int .i64 (V 2))
  replace hV := hV.far (b' := w.heap.size + 1) (o := 2) (by omega) (.int .i64 (V 2))
  replace hX := hX.far (b' := w.heap.size + 1) (o := 2) (by omega) (.int .i64 (V 2))
  replace hB := hB.put 2 (.int .i64 (V 2))
  replace hW := hW.setCell (p := ⟨w.heap.size + 1, 2, none⟩) (by show w.heap.size ≤ w.heap.size + 1; omega) (.int .i64 (V 2))
  replace hO := hO.stb (b := w.heap.size + 1) (o := 3) (by intro e; have := (hO.lt _ e).1; omega) (.int .i64 (V 3))
  replace hQ := hQ.stb (b := w.heap.size + 1) (o := 3) (hB.ne hQ (show 58 ≠ 41 by decide)) (.int .i64 (V 3))
  replace hA := hA.far (b' := w.heap.size + 1) (o := 3) (by omega) (.int .i64 (V 3))
  replace hV := hV.far (b' := w.heap.size + 1) (o := 3) (by omega) (.int .i64 (V 3))
  replace hX := hX.far (b' := w.heap.size + 1) (o := 3) (by omega) (.int .i64 (V 3))
  replace hB := hB.put 3 (.int .i64 (V 3))
  replace hW := hW.setCell (p := ⟨w.heap.size + 1, 3, none⟩) (by show w.heap.size ≤ w.heap.size + 1; omega) (.int .i64 (V 3))
  replace hO := hO.stb (b := w.heap.size + 1) (o := 4) (by intro e; have := (hO.lt _ e).1; omega) (.int .i64 (V 4))
  replace hQ := hQ.stb (b := w.heap.size + 1) (o := 4) (hB.ne hQ (show 58 ≠ 41 by decide)) (.int .i64 (V 4))
  replace hA := hA.far (b' := w.heap.size + 1) (o := 4) (by omega) (.int .i64 (V 4))
  replace hV := hV.far (b' := w.heap.size + 1) (o := 4) (by omega) (.int .i64 (V 4))
  replace hX := hX.far (b' := w.heap.size + 1) (o := 4) (by omega) (.int .i64 (V 4))
  replace hB := hB.put 4 (.int .i64 (V 4))
  replace hW := hW.setCell (p := ⟨w.heap.size + 1, 4, none⟩) (by show w.heap.size ≤ w.heap.size + 1; omega) (.int .i64 (V 4))
  replace hO := hO.stb (b := w.heap.size + 1) (o := 5) (by intro e; have := (hO.lt _ e).1; omega) (.int .i64 (V 5))
  replace hQ := hQ.stb (b := w.heap.size + 1) (o := 5) (hB.ne hQ (show 58 ≠ 41 by decide)) (.int .i64 (V 5))
  replace hA := hA.far (b' := w.heap.size + 1) (o := 5) (by omega) (.int .i64 (V 5))
  replace hV := hV.far (b' := w.heap.size + 1) (o := 5) (by omega) (.int .i64 (V 5))
  replace hX := hX.far (b' := w.heap.size + 1) (o := 5) (by omega) (.int .i64 (V 5))
  replace hB := hB.put 5 (.int .i64 (V 5))
  replace hW := hW.setCell (p := ⟨w.heap.size + 1, 5, none⟩) (by show w.heap.size ≤ w.heap.size + 1; omega) (.int .i64 (V 5))
  replace hO := hO.stb (b := w.heap.size + 1) (o := 6) (by intro e; have := (hO.lt _ e).1; omega) (.int .i64 (V 6))
  replace hQ := hQ.stb (b := w.heap.size + 1) (o := 6) (hB.ne hQ (show 58 ≠ 41 by decide)) (.int .i64 (V 6))
  replace hA := hA.far (b' := w.heap.size + 1) (o := 6) (by omega) (.int .i64 (V 6))
  replace hV := hV.far (b' := w.heap.size + 1) (o := 6) (by omega) (.int .i64 (V 6))
  replace hX := hX.far (b' := w.heap.size + 1) (o := 6) (by omega) (.int .i64 (V 6))
  replace hB := hB.put 6 (.int .i64 (V 6))
  replace hW := hW.setCell (p := ⟨w.heap.size + 1, 6, none⟩) (by show w.heap.size ≤ w.heap.size + 1; omega) (.int .i64 (V 6))
  replace hO := hO.stb (b := w.heap.size + 1) (o := 7) (by intro e; have := (hO.lt _ e).1; omega) (.int .i64 (V 7))
  replace hQ := hQ.stb (b := w.heap.size + 1) (o := 7) (hB.ne hQ (show 58 ≠ 41 by decide)) (.int .i64 (V 7))
  replace hA := hA.far (b' := w.heap.size + 1) (o := 7) (by omega) (.int .i64 (V 7))
  replace hV := hV.far (b' := w.heap.size + 1) (o := 7) (by omega) (.int .i64 (V 7))
  replace hX := hX.far (b' := w.heap.size + 1) (o := 7) (by omega) (.int .i64 (V 7))
  replace hB := hB.put 7 (.int .i64 (V 7))
  replace hW := hW.setCell (p := ⟨w.heap.size + 1, 7, none⟩) (by show w.heap.size ≤ w.heap.size + 1; omega) (.int .i64 (V 7))
  replace hO := hO.stb (b := w.heap.size + 1) (o := 8) (by intro e; have := (hO.lt _ e).1; omega) (.int .i64 (V 8))
  replace hQ := hQ.stb (b := w.heap.size + 1) (o := 8) (hB.ne hQ (show 58 ≠ 41 by decide)) (.int .i64 (V 8))
  replace hA := hA.far (b' := w.heap.size + 1) (o := 8) (by omega) (.int .i64 (V 8))
  replace hV := hV.far (b' := w.heap.size + 1) (o := 8) (by omega) (.int .i64 (V 8))
  replace hX := hX.far (b' := w.heap.size + 1) (o := 8) (by omega) (.int .i64 (V 8))
  replace hB := hB.put 8 (.int .i64 (V 8))
  replace hW := hW.setCell (p := ⟨w.heap.size + 1, 8, none⟩) (by show w.heap.size ≤ w.heap.size + 1; omega) (.int .i64 (V 8))
  replace hO := hO.stb (b := w.heap.size + 1) (o := 9) (by intro e; have := (hO.lt _ e).1; omega) (.int .i64 (V 9))
  replace hQ := hQ.stb (b := w.heap.size + 1) (o := 9) (hB.ne hQ (show 58 ≠ 41 by decide)) (.int .i64 (V 9))
  replace hA := hA.far (b' := w.heap.size + 1) (o := 9) (by omega) (.int .i64 (V 9))
  replace hV := hV.far (b' := w.heap.size + 1) (o := 9) (by omega) (.int .i64 (V 9))
  replace hX := hX.far (b' := w.heap.size + 1) (o := 9) (by omega) (.int .i64 (V 9))
  replace hB := hB.put 9 (.int .i64 (V 9))
  replace hW := hW.setCell (p := ⟨w.heap.size + 1, 9, none⟩) (by show w.heap.size ≤ w.heap.size + 1; omega) (.int .i64 (V 9))
  replace hO := hO.stb (b := w.heap.size + 1) (o := 10) (by intro e; have := (hO.lt _ e).1; omega) (.int .i64 (V 10))
  replace hQ := hQ.stb (b := w.heap.size + 1) (o := 10) (hB.ne hQ (show 58 ≠ 41 by decide)) (.int .i64 (V 10))
  replace hA := hA.far (b' := w.heap.size + 1) (o := 10) (by omega) (.int .i64 (V 10))
  replace hV := hV.far (b' := w.heap.size + 1) (o := 10) (by omega) (.int .i64 (V 10))
  replace hX := hX.far (b' := w.heap.size + 1) (o := 10) (by omega) (.int .i64 (V 10))
  replace hB := hB.put 10 (.int .i64 (V 10))
  replace hW := hW.setCell (p := ⟨w.heap.size + 1, 10, none⟩) (by show w.heap.size ≤ w.heap.size + 1; omega) (.int .i64 (V 10))
  replace hO := hO.stb (b := w.heap.size + 1) (o := 11) (by intro e; have := (hO.lt _ e).1; omega) (.int .i64 (V 11))
  replace hQ := hQ.stb (b := w.heap.size + 1) (o := 11) (hB.ne hQ (show 58 ≠ 41 by decide)) (.int .i64 (V 11))
  replace hA := hA.far (b' := w.heap.size + 1) (o := 11) (by omega) (.int .i64 (V 11))
  replace hV := hV.far (b' := w.heap.size + 1) (o := 11) (by omega) (.int .i64 (V 11))
  replace hX := hX.far (b' := w.heap.size + 1) (o := 11) (by omega) (.int .i64 (V 11))
  replace hB := hB.put 11 (.int .i64 (V 11))
  replace hW := hW.setCell (p := ⟨w.heap.size + 1, 11, none⟩) (by show w.heap.size ≤ w.heap.size + 1; omega) (.int .i64 (V 11))
  generalize ((((((((((((w20.setCell ⟨w.heap.size + 1, 0, none⟩ (.int .i64 (V 0))).setCell ⟨w.heap.size + 1, 1, none⟩ (.int .i64 (V 1))).setCell ⟨w.heap.size + 1, 2, none⟩ (.int .i64 (V 2))).setCell ⟨w.heap.size + 1, 3, none⟩ (.int .i64 (V 3))).setCell ⟨w.heap.size + 1, 4, none⟩ (.int .i64 (V 4))).setCell ⟨w.heap.size + 1, 5, none⟩ (.int .i64 (V 5))).setCell ⟨w.heap.size + 1, 6, none⟩ (.int .i64 (V 6))).setCell ⟨w.heap.size + 1, 7, none⟩ (.int .i64 (V 7))).setCell ⟨w.heap.size + 1, 8, none⟩ (.int .i64 (V 8))).setCell ⟨w.heap.size + 1, 9, none⟩ (.int .i64 (V 9))).setCell ⟨w.heap.size + 1, 10, none⟩ (.int .i64 (V 10))).setCell ⟨w.heap.size + 1, 11, none⟩ (.int .i64 (V 11))) = w21 at hW hA hB hV hX hO hQ ⊢
  simp only [List.setIfInBounds_toArray, List.set_cons_zero, List.set_cons_succ] at hB
  have hVc0 := hV.cell 0 rfl
  have hVc1 := hV.cell 1 rfl
  have hVc2 := hV.cell 2 rfl
  have hVc3 := hV.cell 3 rfl
  have hXc0 := hX.cell 0 rfl
  have hXc1 := hX.cell 1 rfl
  have hXc2 := hX.cell 2 rfl
  have hXc3 := hX.cell 3 rfl
  have hXc4 := hX.cell 4 rfl
  have hXc5 := hX.cell 5 rfl
  have hXc6 := hX.cell 6 rfl
  have hXc7 := hX.cell 7 rfl
  have hXc8 := hX.cell 8 rfl
  have hXc9 := hX.cell 9 rfl
  have hXc10 := hX.cell 10 rfl
  have hXc11 := hX.cell 11 rfl
  refine tr hK (fun hHeld => ?_)
  clear hK K)
 refine wpAnyH_done (by kernel_rfl) ?_ _
 go_wp2_with fail
 clear hVc0 hVc1 hVc2 hVc3 hXc0 hXc1 hXc2 hXc3 hXc4 hXc5 hXc6 hXc7 hXc8 hXc9 hXc10 hXc11
 have y0 := hA.cell 0 rfl
 have y1 := hA.cell 1 rfl
 have y2 := hA.cell 2 rfl
 have y3 := hA.cell 3 rfl
 have z0 := hB.cell 0 rfl
 have z1 := hB.cell 1 rfl
 have z2 := hB.cell 2 rfl
 have z3 := hB.cell 3 rfl
 have z4 := hB.cell 4 rfl
 have z5 := hB.cell 5 rfl
 have z6 := hB.cell 6 rfl
 have z7 := hB.cell 7 rfl
 have z8 := hB.cell 8 rfl
 have z9 := hB.cell 9 rfl
 have z10 := hB.cell 10 rfl
 have z11 := hB.cell 11 rfl
 exact bodyPost_ret (v := .tuple #[worldW T P a n c a' m c', bodyW V]) (by simp [results, Tryz.results10, go_sem, y0, y1, y2, y3, z0, z1, z2, z3, z4, z5, z6, z7, z8, z9, z10, z11]) rfl (by unfold DrWP; exact ⟨T, P, a, n, c, U, a', m, c', Q, V, rfl, hnm.1, hnm.2, hW, hO.base (by omega), hQ.base (by omega), hNE⟩)
end Go.Proofs.YthijeiehcdoidaaGreat
