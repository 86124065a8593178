/- Texts of a proof. -/
import Derived.Test.YtalkkjhehndaoaaGreatRows
import Derived.WalkKit
import Derived.WalkSpells
import Derived.WalkLawsBesides
import Derived.OrdersHeld
import Derived.RangeFuncNested
import Derived.OrdersIn
import Derived.TacticsIn
import Derived.Deep.RegionHeld3
import Derived.Deep.OwnRows
import Derived.Deep.AppendLies
import Derived.Deep.Upon
import Derived.Maps.AppendAt
import Derived.Laws.OwnMore
import Derived.RangeFuncBound
set_option maxHeartbeats 16000000
set_option maxRecDepth 20000
namespace Go.Proofs.YtalkkjhehndaoaaGreat
open Go.RowKit
set_option linter.unusedVariables false
theorem ret_int {k : IntKind} {a b : Int} (h : a = b) : Ending.returned (.int k a) = .returned (.int k b) := by rw [h]
theorem ret_bool {a b : Bool} (h : a = b) : Ending.returned (.bool a) = .returned (.bool b) := by rw [h]
theorem w64 {n : Int} (h : -9223372036854775808 ≤ n ∧ n ≤ 9223372036854775807) : wrap64 n = n := by unfold wrap64; omega
theorem cset_same {w : World} {a : Addr} {u v : Value} (h : w.cell? a = some u) : (w.setCell a v).cell? a = some v := World.cell?_setCell_same _ _ _ h
theorem cset_far {w : World} {p a : Addr} {v : Value} (h : a.block ≠ p.block) : (w.setCell p v).cell? a = w.cell? a := World.cell?_of_block (Below.heap_setCell _ _ _ _ h)
theorem cset_other {w : World} {p a : Addr} {v : Value} (h : p ≠ a) : (w.setCell p v).cell? a = w.cell? a := World.cell?_setCell_other _ _ _ _ h
theorem calloc_old {w : World} {a : Addr} {o : Obj} (h : a.block < w.heap.size) : (w.alloc o).cell? a = w.cell? a := World.cell?_of_block (Below.heap_alloc _ _ _ h)
theorem fset_far {w : World} {p a : Addr} {v : Value} (h : a.block ≠ p.block) : (w.setCell p v).frozen? a = w.frozen? a := World.frozen?_of_block (Below.heap_setCell _ _ _ _ h)
theorem cell_lt {w : World} {a : Addr} {v : Value} (h : w.cell? a = some v) : a.block < w.heap.size := by
 rcases Nat.lt_or_ge a.block w.heap.size with k | k
 · exact k
 · simp [World.cell?, Array.getElem?_eq_none k] at h
structure But (rb : Nat) (w w' : World) : Prop where
 os : w'.os = w.os
 tape : w'.tape = w.tape
 output : w'.output = w.output
 size : w.heap.size ≤ w'.heap.size
 block : ∀ k, k < w.heap.size → k ≠ rb → w'.heap[k]? = w.heap[k]?
theorem But.refl (rb : Nat) (w : World) : But rb w w := ⟨rfl, rfl, rfl, Nat.le_refl _, fun _ _ _ => rfl⟩
theorem But.trans {rb : Nat} {a b c : World} (h : But rb a b) (k : But rb b c) : But rb a c :=
 ⟨k.os.trans h.os, k.tape.trans h.tape, k.output.trans h.output, Nat.le_trans h.size k.size, fun i hi hn => (k.block i (Nat.lt_of_lt_of_le hi h.size) hn).trans (h.block i hi hn)⟩
theorem But.of_below {rb : Nat} {w w' : World} (h : Below w.heap.size w w') : But rb w w' := ⟨h.os, h.tape, h.output, h.size, fun k hk _ => h.block k hk⟩
theorem But.below {rb B : Nat} {w w' : World} (h : But rb w w') (hB : B ≤ rb) (hB' : B ≤ w.heap.size) : Below B w w' := ⟨h.os, h.tape, h.output, h.size, fun k hk => h.block k (by omega) (by omega)⟩
theorem But.alloc {rb : Nat} {a w : World} (h : But rb a w) (o : Obj) : But rb a (w.alloc o) :=
 h.trans ⟨rfl, rfl, rfl, by simp, fun k hk _ => Below.heap_alloc _ _ _ hk⟩
theorem But.setCell {rb : Nat} {a w : World} (h : But rb a w) {p : Addr} (hp : p.block = rb) (u : Value) : But rb a (w.setCell p u) :=
 h.trans ⟨rfl, rfl, rfl, by simp [World.setCell], fun k _ hn => Below.heap_setCell _ _ _ _ (by omega)⟩
theorem But.drewN {rb : Nat} {a w : World} (h : But rb a w) (n : Nat) : But rb a (w.drewN n) := ⟨h.os, h.tape, h.output, h.size, h.block⟩
theorem But.cell {rb : Nat} {w w' : World} (h : But rb w w') {p : Addr} (hp : p.block < w.heap.size) (hn : p.block ≠ rb) : w'.cell? p = w.cell? p := World.cell?_of_block (w := w) (h.block p.block hp hn)
theorem But.frozen {rb : Nat} {w w' : World} (h : But rb w w') {p : Addr} (hp : p.block < w.heap.size) (hn : p.block ≠ rb) : w'.frozen? p = w.frozen? p := World.frozen?_of_block (w := w) (h.block p.block hp hn)
theorem xor_nonneg {x y : Int} (h0 : 0 ≤ x) (h1 : x < 4611686018427387904) (k0 : 0 ≤ y) (k1 : y < 4611686018427387904) : 0 ≤ bits .xor .i64 x y := by
 obtain ⟨a, rfl⟩ := Int.eq_ofNat_of_zero_le h0
 obtain ⟨b, rfl⟩ := Int.eq_ofNat_of_zero_le k0
 have hx : a ^^^ b < 2 ^ 62 := Nat.xor_lt_two_pow (by omega) (by omega)
 have e1 : (BitVec.ofInt 64 (a : Int)).toNat = a := by
  rw [BitVec.ofInt_natCast, BitVec.toNat_ofNat]; exact Nat.mod_eq_of_lt (by omega)
 have e2 : (BitVec.ofInt 64 (b : Int)).toNat = b := by
  rw [BitVec.ofInt_natCast, BitVec.toNat_ofNat]; exact Nat.mod_eq_of_lt (by omega)
 show 0 ≤ IntKind.i64.wrap ((BitVec.ofInt 64 (a : Int) ^^^ BitVec.ofInt 64 (b : Int)).toNat : Int)
 rw [BitVec.toNat_xor, e1, e2]
 simp [IntKind.wrap, IntKind.bits, IntKind.signed]
 omega
section
variable {P : Program} {md : Region.Mode} {ops : Array Oper} {Q : Exit → Act → World → Prop} {S : World → Prop}
end
end Go.Proofs.YtalkkjhehndaoaaGreat
namespace Go.Proofs.YtalkkjhehndaoaaGreat
open Go.RowKit
set_option linter.unusedVariables false
section
variable {P : Program} {Q : Exit → Act → World → Prop}
theorem rows_wide {n : Nat} {row : String} {args : Array Value} {w : World} {R : Value → World → Prop} (h : Rows P row args w R) : RowsIn Fence.wide n P row args w R :=
 fun c cs _ => let ⟨v, w', r, s⟩ := h c cs; ⟨v, w', r, stepsIn_wide.2 s⟩
theorem opIn_of {l n : Nat} {o : Oper} (hd : ∀ c, o.op ≠ .defer c) {a : Act} {w : World} {K : Act → World → Prop} (h : o.wp P a w K Q) : o.wpIn (Fence.wide.inRound l) n P a w K Q := by
 unfold Oper.wp at h
 unfold Oper.wpIn
 refine ⟨fun _ _ => trivial, ?_⟩
 rw [Oper.semAt_eq _ _ _ hd]
 generalize (execOp a.eval o).run P w = r at *
 cases r with
 | ok x w' =>
  cases x <;> simp only [Oper.upon, Oper.uponIn] at h ⊢ <;>
   first
    | exact h
    | exact ⟨(fun e => by cases e), CallsIn.inRound l (callsIn_wide.2 h)⟩
    | exact ⟨(fun e => by cases e), rows_wide h⟩
 | halt x w' => cases x <;> simp only [Oper.upon, Oper.uponIn] at h ⊢ <;> exact h
def noDefer (ops : Array Oper) : Bool := ops.toList.all fun o => match o.op with | .defer _ => false | _ => true
theorem noDefer_at {ops : Array Oper} (h : noDefer ops = true) {i : Nat} {o : Oper} (hi : ops[i]? = some o) : ∀ c, o.op ≠ .defer c := by
 intro c e
 have hm : o ∈ ops.toList := List.mem_of_getElem? (by simpa using hi)
 have := List.all_eq_true.1 h o hm
 rw [e] at this
 cases this
theorem wpOpIn_of {l n : Nat} {ops : Array Oper} (hL : ¬ LetsOut Q) (hn : noDefer ops = true) {i : Nat} {K : Act → World → Prop} {a : Act} {w : World} (h : wpOp P ops Q i K a w) : wpOpIn (Fence.wide.inRound l) n P ops Q i K a w := by
 unfold wpOp at h
 unfold wpOpIn
 cases hi : ops[i]? with
 | none => simp only [hi] at h ⊢; exact h
 | some o =>
  simp only [hi] at h ⊢
  split
  · rename_i hw
    rw [if_pos hw] at h
    exact opIn_of (noDefer_at hn hi) (h.resolve_right fun q => hL q.2)
  · rename_i hw
    rw [if_neg hw] at h
    exact ⟨fun _ _ => trivial, h⟩
theorem wpAnyIn_of {l n : Nat} {md : Region.Mode} {ops : Array Oper} (hL : ¬ LetsOut Q) (hn : noDefer ops = true) : ∀ (fuel : Nat) (listed : Array Bool) (a : Act) (w : World),
 wpAny P md ops Q fuel listed a w → wpAnyIn (Fence.wide.inRound l) n P md ops Q fuel listed a w
 | 0, _, _, _, h => h
 | fuel + 1, _, _, _, h => ⟨h.1, fun i hi => wpOpIn_of hL hn (wpOp_mono (fun a' w' h' => wpAnyIn_of hL hn fuel _ a' w' h') (h.2 i hi))⟩
theorem wpIn_region_held_drew {l n : Nat} {ops : Array Oper} {S : World → Prop} {id : Nat} {a : Act} {w : World} (hm : P.follows .mixedOrders = true) (hL : ¬ LetsOut Q) (hn : noDefer ops = true) (hS : S w.drew)
 (h : S w.drew → wpAnyH P .any ops Q S ops.size (Array.replicate ops.size false) a w.drew) : (Code.region id ops true).wpIn (Fence.wide.inRound l) n P Q a w :=
 wpIn_region_any hm (wpAnyIn_of hL hn _ _ _ _ (wpAny_of_held _ _ _ _ (h hS)))
theorem wpListIn_of {l n : Nat} {ops : Array Oper} (hL : ¬ LetsOut Q) : ∀ (os : List Oper) (hn : noDefer os.toArray = true) (a : Act) (w : World), wpList P ops Q os a w → wpListIn (Fence.wide.inRound l) n P ops Q os a w
 | [], _, _, _, h => h
 | o :: rest, hn, a, w, h => by
  unfold wpList at h
  unfold wpListIn
  have hn' : noDefer rest.toArray = true := by simp [noDefer] at hn ⊢; exact hn.2
  split
  · rename_i hw
    rw [if_pos hw] at h
    refine opIn_of (noDefer_at hn (i := 0) (by simp)) (Oper.wp_mono (fun a' w' h' => wpListIn_of hL rest hn' a' w' h') (h.resolve_right fun q => hL q.2))
  · rename_i hw
    rw [if_neg hw] at h
    exact ⟨fun _ _ => trivial, wpListIn_of hL rest hn' _ _ h⟩
theorem wpIn_region_plain {l n : Nat} {ops : Array Oper} {id : Nat} {a : Act} {w : World} (hL : ¬ LetsOut Q) (hn : noDefer ops = true) (h : wpList P ops Q ops.toList a w) : (Code.region id ops false).wpIn (Fence.wide.inRound l) n P Q a w :=
 wpIn_region_list (wpListIn_of hL _ (by simpa using hn) _ _ h)
end
structure Sm (B : Nat) (W W' : World) : Prop where
 below : Below B W W'
 cells : ∀ (k : Nat) (o : Obj), W.heap[k]? = some o → o.isCells = true → W'.heap[k]? = some o
theorem Sm.refl (B : Nat) (W : World) : Sm B W W := ⟨Below.refl _ _, fun _ _ h _ => h⟩
theorem Sm.trans {B : Nat} {X Y Z : World} (h : Sm B X Y) (k : Sm B Y Z) : Sm B X Z := ⟨h.below.trans k.below, fun i o hi ho => k.cells i o (h.cells i o hi ho) ho⟩
theorem Sm.mono {B B' : Nat} {X Y : World} (h : Sm B X Y) (hB : B' ≤ B) : Sm B' X Y := ⟨h.below.mono hB, h.cells⟩
theorem Sm.of_below {B : Nat} {W W' : World} (h : Below W.heap.size W W') (hB : B ≤ W.heap.size) : Sm B W W' :=
 ⟨h.mono hB, fun k o hk _ => (h.block k (Array.getElem?_eq_some_iff.1 hk).1).trans hk⟩
theorem Sm.putObj {B l : Nat} {W : World} {o : Obj} (o' : Obj) (hl : W.heap[l]? = some o) (ho : o.isCells = false) (hB : B ≤ l) : Sm B W (W.putObj l o') :=
 ⟨⟨rfl, rfl, rfl, by simp, fun k hk => World.putObj_heap_other (by omega)⟩, fun k x hk hx => by
  refine (World.putObj_heap_other (fun e => ?_)).trans hk
  subst e
  rw [hl] at hk
  cases hk
  rw [ho] at hx
  cases hx⟩
theorem isCells_of_cell {W : World} {p : Addr} {v : Value} (h : W.cell? p = some v) : ∃ o : Obj, W.heap[p.block]? = some o ∧ o.isCells = true := by
 unfold World.cell? at h
 cases ho : W.heap[p.block]? with
 | none => simp [ho] at h
 | some o => cases o <;> simp [ho] at h <;> exact ⟨_, rfl, rfl⟩
theorem Sm.block {B : Nat} {W W' : World} (h : Sm B W W') {p : Addr} {v : Value} (hc : W.cell? p = some v) : W'.heap[p.block]? = W.heap[p.block]? := by
 obtain ⟨o, ho, hx⟩ := isCells_of_cell hc
 rw [ho]
 exact h.cells _ _ ho hx
theorem Sm.cell {B : Nat} {W W' : World} (h : Sm B W W') {p : Addr} {v : Value} (hc : W.cell? p = some v) : W'.cell? p = some v := (World.cell?_of_block (h.block hc)).trans hc
theorem Sm.frozen {B : Nat} {W W' : World} (h : Sm B W W') {p : Addr} {v : Value} (hc : W.cell? p = some v) {b : Bool} (hf : W.frozen? p = b) : W'.frozen? p = b := (World.frozen?_of_block (h.block hc)).trans hf
theorem Sm.size {B : Nat} {W W' : World} (h : Sm B W W') : W.heap.size ≤ W'.heap.size := h.below.size
theorem KeepsFrom.of_below {B : Nat} {W W' : World} (h : Below W.heap.size W W') : KeepsFrom B W W' :=
 ⟨h.size, fun k o _ hk _ => (h.block k (Array.getElem?_eq_some_iff.1 hk).1).trans hk⟩
def rdPost (B : Nat) (I : World → Prop) (Ix : Code → World → Prop) (W : World) : Exit → Act → World → Prop
 | .normal, _, W' => KeepsFrom B W W' ∧ I W'
 | .ret, _, W' => KeepsFrom B W W' ∧ Ix .ret W'
 | .exit id, _, W' => KeepsFrom B W W' ∧ Ix (.exit id) W'
 | .goto t, _, W' => KeepsFrom B W W' ∧ Ix (.goto t) W'
 | .panic _, _, _ => False
 | .outgrown, _, _ => False
def ItC (P : Program) (gf : Nat) (bound : Array Value) (encs : Nat → Array Value) (nn : Nat) (w : World) : Prop :=
 ∀ (l : Nat) (J : Nat → World → Prop) (Jx : World → Prop) (W : World), Below w.heap.size w W →
  (∀ k A B, J k A → Below A.heap.size A B → J k B) → (∀ A B, Jx A → Below A.heap.size A B → Jx B) →
  (∀ k A, J k A → k < nn → YieldAt Fence.wide 0 P l (encs k) A fun e A' => (e = .returned (.bool true) ∧ J (k + 1) A') ∨ (e = .returned (.bool false) ∧ Jx A')) →
  J 0 W → CallsIn Fence.wide 0 P gf (bound ++ #[.func (.yield l) #[] #[]]) W fun e A => (∃ v, e = .returned v) ∧ (J nn A ∨ Jx A)
theorem yield_round {P : Program} {ps : Array Tmp} {assign body : Code} {a : Act} {w : World} {B l dl : Nat} {fn : FuncId} {encs : Nat → Array Value} {k : Nat} (hps : (encs k).size = ps.size)
 {I I' : World → Prop} {Ix : Code → World → Prop} (hI : ∀ A B', I A → Sm B A B' → I B') (hI' : ∀ A B', I' A → Sm B A B' → I' B') (hIx : ∀ c A B', Ix c A → Sm B A B' → Ix c B') {H : World → Prop} (hH : ∀ A B', H A → KeepsFrom B A B' → H B') (hHp : ∀ A o, H A → H (A.putObj l o))
 {rec : LoopState → Option Code → Loop} (hrec : rec = fun st pe => { state := st, pending := pe, fn, tmps := a.tmps, params := ps, assign, body, defers := dl }) (hBl : B ≤ l)
 {W : World} (hi : I W) (hl : W.heap[l]? = some (.loop (rec .ready none))) (hh : H W)
 (hround : assign.wpIn (Fence.wide.inRound l) 0 P (Exit.then (fun a₁ W₁ => KeepsFrom B W W₁ ∧ ∀ W₂, Sm B W₁ W₂ → (∃ r, W₂.heap[l]? = some (.loop r)) → body.wpIn (Fence.wide.inRound l) 0 P (rdPost B I' Ix W₂) a₁ W₂) (fun _ _ _ => False))
   { tmps := (ps.zip (encs k)).foldl (fun t (p, v) => t.setIfInBounds p v) a.tmps, defers := [] } W) :
 YieldAt Fence.wide 0 P l (encs k) W fun e W' => (e = .returned (.bool true) ∧ I' W' ∧ W'.heap[l]? = some (.loop (rec .ready none)) ∧ H W') ∨ (e = .returned (.bool false) ∧ ∃ c, Ix c W' ∧ W'.heap[l]? = some (.loop (rec .done (some c))) ∧ H W') := by
 have hy := run_yield (P := P) (args := encs k) hl (by rw [hrec]; exact hps)
 rw [hrec] at hy
 refine ⟨fn, _, assign, body, hy, roundIn_of_wpIn trivial (wpIn_mono hround ?_)⟩
 intro e a₁ W₁ q
 cases e with
 | normal =>
  obtain ⟨hk1, hb⟩ := q
  have hl1 := hk1.same _ _ hBl hl rfl
  have hh1 := hH _ _ hh hk1
  refine ⟨_, run_beginRound hl1 (by rw [hrec]), ?_⟩
  have hlt : l < W₁.heap.size := (Array.getElem?_eq_some_iff.1 hl1).1
  have hl2 : (W₁.putObj l (.loop { rec .ready none with state := .busy })).heap[l]? = some (.loop { rec .ready none with state := .busy }) := World.putObj_heap_same hlt
  refine wpIn_mono (hb _ (Sm.putObj _ hl1 rfl hBl) ⟨_, hl2⟩) ?_
  have fin : ∀ (jump : Option Code) (W3 : World), KeepsFrom B (W₁.putObj l (.loop { rec .ready none with state := .busy })) W3 →
   (Instr.endRound l jump).run P W3 = .ok (.bool jump.isNone) (W3.putObj l (.loop (rec (if jump.isNone then .ready else .done) jump))) ∧
   Sm B W3 (W3.putObj l (.loop (rec (if jump.isNone then .ready else .done) jump))) ∧
   (W3.putObj l (.loop (rec (if jump.isNone then .ready else .done) jump))).heap[l]? = some (.loop (rec (if jump.isNone then .ready else .done) jump)) ∧
   H (W3.putObj l (.loop (rec (if jump.isNone then .ready else .done) jump))) := fun jump W3 hk3 => by
   have hl3 := hk3.same _ _ hBl hl2 rfl
   have := run_endRound (P := P) jump hl3
   rw [hrec] at this ⊢
   exact ⟨this, Sm.putObj _ hl3 rfl hBl, World.putObj_heap_same (Array.getElem?_eq_some_iff.1 hl3).1, hHp _ _ (hH _ _ (hHp _ _ hh1) (by rw [hrec] at hk3; exact hk3))⟩
  rintro e a3 W3 hp
  cases e with
  | normal =>
   obtain ⟨hk3, hi3⟩ := hp
   obtain ⟨hr, hs, hl4, hh4⟩ := fin none W3 hk3
   exact ⟨_, _, hr, .inl ⟨rfl, hI' _ _ hi3 hs, hl4, hh4⟩⟩
  | ret =>
   obtain ⟨hk3, hi3⟩ := hp
   obtain ⟨hr, hs, hl4, hh4⟩ := fin (some .ret) W3 hk3
   exact ⟨_, _, hr, .inr ⟨rfl, .ret, hIx _ _ _ hi3 hs, hl4, hh4⟩⟩
  | exit id =>
   obtain ⟨hk3, hi3⟩ := hp
   obtain ⟨hr, hs, hl4, hh4⟩ := fin (some (.exit id)) W3 hk3
   exact ⟨_, _, hr, .inr ⟨rfl, .exit id, hIx _ _ _ hi3 hs, hl4, hh4⟩⟩
  | goto t =>
   obtain ⟨hk3, hi3⟩ := hp
   obtain ⟨hr, hs, hl4, hh4⟩ := fin (some (.goto t)) W3 hk3
   exact ⟨_, _, hr, .inr ⟨rfl, .goto t, hIx _ _ _ hi3 hs, hl4, hh4⟩⟩
  | panic ch => exact hp.elim
  | outgrown => exact hp.elim
 | exit id => exact q.elim
 | goto t => exact q.elim
 | ret => exact q.elim
 | panic ch => exact q.elim
 | outgrown => exact q.elim
theorem wp_range_out {P : Program} {g : Operand} {ps : Array Tmp} {assign body : Code} {Q : Exit → Act → World → Prop} {a : Act} {w : World} {gf : Nat} {bound : Array Value}
 (hg : a.eval g = .func (.func gf) bound #[]) (eg : ∀ args w, (callFunc gf args).run P w = .ok (.enter gf args) w)
 {encs : Nat → Array Value} {nn : Nat} (hit : ItC P gf bound encs nn w) (hps : ∀ k, (encs k).size = ps.size)
 (I : Nat → World → Prop) (Ix : Code → World → Prop) (hI : ∀ k A B, I k A → Sm w.heap.size A B → I k B) (hIx : ∀ c A B, Ix c A → Sm w.heap.size A B → Ix c B) (h0 : I 0 w)
 (hround : ∀ l k W, w.heap.size ≤ l → I k W → k < nn →
   assign.wpIn (Fence.wide.inRound l) 0 P (Exit.then (fun a₁ W₁ => KeepsFrom w.heap.size W W₁ ∧ ∀ W₂, Sm w.heap.size W₁ W₂ → (∃ r, W₂.heap[l]? = some (.loop r)) → body.wpIn (Fence.wide.inRound l) 0 P (rdPost w.heap.size (I (k + 1)) Ix W₂) a₁ W₂) (fun _ _ _ => False))
   { tmps := (ps.zip (encs k)).foldl (fun t (p, v) => t.setIfInBounds p v) a.tmps, defers := [] } W)
 (hdone : ∀ (D : Nat) (W : World), w.heap.size ≤ D → I nn W → W.heap[D]? = some (.deferred (some [])) → Q .normal { a with defers := { target := .collected D, args := #[] } :: a.defers } W)
 (hstop : ∀ (D : Nat) (c : Code) (W : World), w.heap.size ≤ D → Ix c W → W.heap[D]? = some (.deferred (some [])) → c.wp P Q { a with defers := { target := .collected D, args := #[] } :: a.defers } W) :
 (Code.rangeFunc g ps assign body).wp P Q a w := by
 refine wpIn_wide.1 (wpIn_rangeFunc (n := 0) ?_)
 intro fn _
 obtain ⟨rec, hrec⟩ : ∃ rec : LoopState → Option Code → Loop, rec = fun st pe => { state := st, pending := pe, fn, tmps := a.tmps, params := ps, assign, body, defers := w.heap.size } := ⟨_, rfl⟩
 obtain ⟨W1, hW1⟩ : ∃ W1, (w.alloc (.deferred (some []))).alloc (.loop (rec .ready none)) = W1 := ⟨_, rfl⟩
 have hb1 : Below w.heap.size w W1 := by rw [← hW1]; exact ((Below.refl _ w).alloc (Nat.le_refl _) _).alloc (by simp) _
 have hL1 : W1.heap[w.heap.size + 1]? = some (.loop (rec .ready none)) := by
  rw [← hW1]; have := World.alloc_heap_new (w.alloc (.deferred (some []))) (.loop (rec .ready none)); rwa [World.size_alloc] at this
 have hK1 : W1.heap[w.heap.size]? = some (.deferred (some [])) := by
  rw [← hW1]; exact (Below.heap_alloc _ _ _ (by simp)).trans (World.alloc_heap_new w _)
 refine ⟨w.heap.size + 1, [{ target := .collected w.heap.size, args := #[] }], W1, { target := .fn (.func gf) #[], args := bound ++ #[.func (.yield (w.heap.size + 1)) #[] #[]] }, W1, gf,
  bound ++ #[.func (.yield (w.heap.size + 1)) #[] #[]], W1, ?_, ?_, fun _ _ => trivial, ?_, (fun e => by cases e), ?_⟩
 · rw [← hW1, hrec]; exact run_enterLoop_outer _ _ _ _ _
 · simp only [resolve, hg]
   simp [go_sem]
 · simp [invoke, go_sem, eg]
 · refine (hit (w.heap.size + 1)
    (fun k W => I k W ∧ W.heap[w.heap.size + 1]? = some (.loop (rec .ready none)) ∧ W.heap[w.heap.size]? = some (.deferred (some [])) ∧ w.heap.size ≤ W.heap.size)
    (fun W => ∃ c, Ix c W ∧ W.heap[w.heap.size + 1]? = some (.loop (rec .done (some c))) ∧ W.heap[w.heap.size]? = some (.deferred (some [])) ∧ w.heap.size ≤ W.heap.size)
    W1 hb1 ?_ ?_ ?_ ⟨hI _ _ _ h0 (Sm.of_below hb1 (Nat.le_refl _)), hL1, hK1, hb1.size⟩).mono ?_
   · rintro k A B ⟨h1, h2, h3, h4⟩ hb
     exact ⟨hI _ _ _ h1 (Sm.of_below hb h4), (hb.block _ (Array.getElem?_eq_some_iff.1 h2).1).trans h2, (hb.block _ (Array.getElem?_eq_some_iff.1 h3).1).trans h3, Nat.le_trans h4 hb.size⟩
   · rintro A B ⟨c, h1, h2, h3, h4⟩ hb
     exact ⟨c, hIx _ _ _ h1 (Sm.of_below hb h4), (hb.block _ (Array.getElem?_eq_some_iff.1 h2).1).trans h2, (hb.block _ (Array.getElem?_eq_some_iff.1 h3).1).trans h3, Nat.le_trans h4 hb.size⟩
   · rintro k W ⟨h1, h2, h3, h4⟩ hk
     obtain ⟨fn', tm, as', bo, hy, hR⟩ := yield_round (P := P) (ps := ps) (assign := assign) (body := body) (a := a) (w := w) (B := w.heap.size) (l := w.heap.size + 1) (dl := w.heap.size) (fn := fn) (encs := encs) (k := k) (hps k) (I := I k) (I' := I (k + 1)) (Ix := Ix) (hI k) (hI (k + 1)) hIx
      (H := fun W => W.heap[w.heap.size]? = some (.deferred (some [])) ∧ w.heap.size ≤ W.heap.size) (fun A B h hk => ⟨hk.same _ _ (Nat.le_refl _) h.1 rfl, Nat.le_trans h.2 hk.size⟩) (fun A o h => ⟨(World.putObj_heap_other (by omega)).trans h.1, by simpa using h.2⟩) hrec (by omega) h1 h2 ⟨h3, h4⟩ (hround _ k W (by omega) h1 hk)
     refine ⟨fn', tm, as', bo, hy, hR.mono ?_⟩
     rintro e W' (⟨e1, h1, h2, h3, h4⟩ | ⟨e1, c, h1, h2, h3, h4⟩)
     · exact .inl ⟨e1, h1, h2, h3, h4⟩
     · exact .inr ⟨e1, c, h1, h2, h3, h4⟩
   · rintro e W2 ⟨⟨v, rfl⟩, (⟨hi, hl, hk, _⟩ | ⟨c, hi, hl, hk, _⟩)⟩
     · exact ⟨none, _, by have := run_endLoop (P := P) hl (by rw [hrec]; simp); rw [hrec] at this; exact this, hdone _ _ (Nat.le_refl _) (hI _ _ _ hi (Sm.putObj _ hl rfl (by omega))) ((World.putObj_heap_other (by omega)).trans hk)⟩
     · exact ⟨some c, _, by have := run_endLoop (P := P) hl (by rw [hrec]; simp); rw [hrec] at this; exact this, wpIn_wide.2 (hstop _ c _ (Nat.le_refl _) (hIx _ _ _ hi (Sm.putObj _ hl rfl (by omega))) ((World.putObj_heap_other (by omega)).trans hk))⟩
theorem wpIn_range_in {P : Program} {g : Operand} {ps : Array Tmp} {assign body : Code} {Q : Exit → Act → World → Prop} {a : Act} {w : World} {l₀ : Nat} {r₀ : Loop} (hr₀ : w.heap[l₀]? = some (.loop r₀)) {gf : Nat} {bound : Array Value}
 (hg : a.eval g = .func (.func gf) bound #[]) (eg : ∀ args w, (callFunc gf args).run P w = .ok (.enter gf args) w)
 {encs : Nat → Array Value} {nn : Nat} (hit : ItC P gf bound encs nn w) (hps : ∀ k, (encs k).size = ps.size)
 (I : Nat → World → Prop) (Ix : Code → World → Prop) (hI : ∀ k A B, I k A → Sm w.heap.size A B → I k B) (hIx : ∀ c A B, Ix c A → Sm w.heap.size A B → Ix c B) (h0 : I 0 w)
 (hround : ∀ l k W, w.heap.size ≤ l → I k W → k < nn →
   assign.wpIn (Fence.wide.inRound l) 0 P (Exit.then (fun a₁ W₁ => KeepsFrom w.heap.size W W₁ ∧ ∀ W₂, Sm w.heap.size W₁ W₂ → (∃ r, W₂.heap[l]? = some (.loop r)) → body.wpIn (Fence.wide.inRound l) 0 P (rdPost w.heap.size (I (k + 1)) Ix W₂) a₁ W₂) (fun _ _ _ => False))
   { tmps := (ps.zip (encs k)).foldl (fun t (p, v) => t.setIfInBounds p v) a.tmps, defers := [] } W)
 (hdone : ∀ (W : World), I nn W → Q .normal a W)
 (hstop : ∀ (c : Code) (W : World), Ix c W → c.wpIn (Fence.wide.inRound l₀) 0 P Q a W) :
 (Code.rangeFunc g ps assign body).wpIn (Fence.wide.inRound l₀) 0 P Q a w := by
 refine wpIn_rangeFunc (n := 0) ?_
 intro fn _
 obtain ⟨rec, hrec⟩ : ∃ rec : LoopState → Option Code → Loop, rec = fun st pe => { state := st, pending := pe, fn, tmps := a.tmps, params := ps, assign, body, defers := r₀.defers } := ⟨_, rfl⟩
 obtain ⟨W1, hW1⟩ : ∃ W1, w.alloc (.loop (rec .ready none)) = W1 := ⟨_, rfl⟩
 have hb1 : Below w.heap.size w W1 := by rw [← hW1]; exact (Below.refl _ w).alloc (Nat.le_refl _) _
 have hL1 : W1.heap[w.heap.size]? = some (.loop (rec .ready none)) := by
  rw [← hW1]; exact World.alloc_heap_new w (.loop (rec .ready none))
 refine ⟨w.heap.size, [], W1, { target := .fn (.func gf) #[], args := bound ++ #[.func (.yield w.heap.size) #[] #[]] }, W1, gf,
  bound ++ #[.func (.yield w.heap.size) #[] #[]], W1, ?_, ?_, fun _ _ => trivial, ?_, (fun e => by cases e), ?_⟩
 · rw [← hW1, hrec]; exact run_enterLoop_inner hr₀ _ _ _ _ _
 · simp only [resolve, hg]
   simp [go_sem]
 · simp [invoke, go_sem, eg]
 · refine CallsIn.inRound l₀ ((hit w.heap.size
    (fun k W => I k W ∧ W.heap[w.heap.size]? = some (.loop (rec .ready none)) ∧ w.heap.size ≤ W.heap.size)
    (fun W => ∃ c, Ix c W ∧ W.heap[w.heap.size]? = some (.loop (rec .done (some c))) ∧ w.heap.size ≤ W.heap.size)
    W1 hb1 ?_ ?_ ?_ ⟨hI _ _ _ h0 (Sm.of_below hb1 (Nat.le_refl _)), hL1, hb1.size⟩).mono ?_)
   · rintro k A B ⟨h1, h2, h4⟩ hb
     exact ⟨hI _ _ _ h1 (Sm.of_below hb h4), (hb.block _ (Array.getElem?_eq_some_iff.1 h2).1).trans h2, Nat.le_trans h4 hb.size⟩
   · rintro A B ⟨c, h1, h2, h4⟩ hb
     exact ⟨c, hIx _ _ _ h1 (Sm.of_below hb h4), (hb.block _ (Array.getElem?_eq_some_iff.1 h2).1).trans h2, Nat.le_trans h4 hb.size⟩
   · rintro k W ⟨h1, h2, h4⟩ hk
     obtain ⟨fn', tm, as', bo, hy, hR⟩ := yield_round (P := P) (ps := ps) (assign := assign) (body := body) (a := a) (w := w) (B := w.heap.size) (l := w.heap.size) (dl := r₀.defers) (fn := fn) (encs := encs) (k := k) (hps k) (I := I k) (I' := I (k + 1)) (Ix := Ix) (hI k) (hI (k + 1)) hIx
      (H := fun W => w.heap.size ≤ W.heap.size) (fun A B h hk => Nat.le_trans h hk.size) (fun A o h => by simpa using h) hrec (Nat.le_refl _) h1 h2 h4 (hround _ k W (Nat.le_refl _) h1 hk)
     refine ⟨fn', tm, as', bo, hy, hR.mono ?_⟩
     rintro e W' (⟨e1, h1, h2, h4⟩ | ⟨e1, c, h1, h2, h4⟩)
     · exact .inl ⟨e1, h1, h2, h4⟩
     · exact .inr ⟨e1, c, h1, h2, h4⟩
   · rintro e W2 ⟨⟨v, rfl⟩, (⟨hi, hl, _⟩ | ⟨c, hi, hl, _⟩)⟩
     · exact ⟨none, _, by have := run_endLoop (P := P) hl (by rw [hrec]; simp); rw [hrec] at this; exact this, hdone _ (hI _ _ _ hi (Sm.putObj _ hl rfl (Nat.le_refl _)))⟩
     · exact ⟨some c, _, by have := run_endLoop (P := P) hl (by rw [hrec]; simp); rw [hrec] at this; exact this, hstop c _ (hIx _ _ _ hi (Sm.putObj _ hl rfl (Nat.le_refl _)))⟩
theorem calls_of_wp_marks {P : Program} {f : FuncId} {fn : Func} {c : Code} {args : Array Value} {w : World} {R : Ending → World → Prop} (hf : P.funcs[f]? = some fn) (hb : fn.body = some c)
 (h : c.wp P (bodyPostM Fence.wide 0 P fn R) { tmps := args ++ Array.replicate (fn.ntmps - args.size) undef, defers := [] } w) : Calls P f args w R :=
 callsIn_wide.1 (callsIn_of_wp_marks (n := 0) hf hb trivial (wpIn_wide.2 h))
theorem marks_ret {P : Program} {fn : Func} {R : Ending → World → Prop} {a : Act} {w : World} {B D : Nat} (hB : B ≤ D) (hd : a.defers = [{ target := .collected D, args := #[] }]) (hK : w.heap[D]? = some (.deferred (some [])))
 (h : ∀ W', Sm B w W' → ∃ v, (results fn a.tmps).run P W' = .ok v W' ∧ R (.returned v) W') : bodyPostM Fence.wide 0 P fn R .ret a w := by
 show LeavesInM Fence.wide 0 P fn a.tmps R a.defers .returning w
 rw [hd]
 exact ⟨by simp, .inl ⟨_, _, rfl, run_takeDeferred hK, h _ (Sm.putObj _ hK rfl hB)⟩⟩
theorem marks_ret0 {P : Program} {fn : Func} {R : Ending → World → Prop} {a : Act} {w : World} {v : Value} (hd : a.defers = []) (hr : (results fn a.tmps).run P w = .ok v w) (hR : R (.returned v) w) : bodyPostM Fence.wide 0 P fn R .ret a w := by
 show LeavesInM Fence.wide 0 P fn a.tmps R a.defers .returning w
 rw [hd]
 exact ⟨v, hr, hR⟩
end Go.Proofs.YtalkkjhehndaoaaGreat
namespace Go.Proofs.YtalkkjhehndaoaaGreat
open Go.RowKit
set_option linter.unusedVariables false
set_option linter.unusedSimpArgs false
def Flat (w : World) (a : Option Addr) (m : Nat) (U : Nat → Int) : Prop :=
 0 < m → ∃ b o, a = some ⟨b, o, none⟩ ∧ b < w.heap.size ∧ ∀ q, q < m → w.cell? ⟨b, o + q, none⟩ = some (.int .i64 (U q))
theorem Flat.below {w w' : World} {a : Option Addr} {m : Nat} {U : Nat → Int} (h : Flat w a m U) (hb : Below w.heap.size w w') : Flat w' a m U := by
 intro h0
 obtain ⟨b, o, e, l, c⟩ := h h0
 exact ⟨b, o, e, Nat.lt_of_lt_of_le l hb.size, fun q hq => (hb.cell (p := ⟨b, o + q, none⟩) l).trans (c q hq)⟩
theorem Flat.nil {w : World} {a : Option Addr} {U : Nat → Int} : Flat w a 0 U := fun h => absurd h (Nat.lt_irrefl 0)
def Row (w : World) (b : Nat) (t : TypeId) (m : Nat) (U : Nat → Int) : Prop := w.rowIs b t m (fun q => .int .i64 (U q))
theorem Row.flat {w : World} {b t m : Nat} {U : Nat → Int} (h : Row w b t m U) : Flat w (some ⟨b, 0, none⟩) m U := by
 intro _
 exact ⟨b, 0, rfl, World.rowIs.lt h, fun q hq => by rw [Nat.zero_add]; exact World.rowIs.cell h hq⟩
theorem Row.cell {w : World} {b t m : Nat} {U : Nat → Int} (h : Row w b t m U) {q : Nat} (hq : q < m) : w.cell? ⟨b, q, none⟩ = some (.int .i64 (U q)) := World.rowIs.cell h hq
theorem Row.fro {w : World} {b t m : Nat} {U : Nat → Int} (h : Row w b t m U) (q : Nat) : w.frozen? ⟨b, q, none⟩ = false := World.rowIs.frozen h q
theorem Row.lt {w : World} {b t m : Nat} {U : Nat → Int} (h : Row w b t m U) : b < w.heap.size := World.rowIs.lt h
theorem Row.congr {w : World} {b t m : Nat} {U V : Nat → Int} (h : Row w b t m U) (e : ∀ q, q < m → U q = V q) : Row w b t m V := World.rowIs.congr h fun q hq => by simp only [e q hq]
theorem Row.below {w w' : World} {b t m : Nat} {U : Nat → Int} (h : Row w b t m U) (hb : Below w.heap.size w w') : Row w' b t m U := World.rowIs.of_block h (hb.block _ h.lt)
theorem Row.set {w : World} {b t m : Nat} {U : Nat → Int} (h : Row w b t m U) (i : Nat) (v : Int) : Row (w.setCell ⟨b, i, none⟩ (.int .i64 v)) b t m (fun q => if q = i then v else U q) :=
 World.rowIs.congr (World.rowIs.set h i (.int .i64 v)) fun q _ => by by_cases e : q = i <;> simp [e]
theorem Row.setO {w : World} {b t m : Nat} {U : Nat → Int} (h : Row w b t m U) {a : Addr} (ha : b ≠ a.block) (v : Value) : Row (w.setCell a v) b t m U := World.rowIs.setOther h ha v
theorem Row.alloc {w : World} {b t m : Nat} {U : Nat → Int} (h : Row w b t m U) (o : Obj) : Row (w.alloc o) b t m U := World.rowIs.alloc h o
theorem Row.drew {w : World} {b t m : Nat} {U : Nat → Int} (h : Row w b t m U) : Row w.drew b t m U := h
theorem Row.made (w : World) (z : Array Value) (m : Nat) (t : TypeId) (hz : ∀ q, q < z.size → z[q]? = some (.int .i64 0)) (h0 : 0 < z.size) : Row (w.alloc (.cells (madeCells z m) t)) w.heap.size t m (fun _ => 0) := by
 refine ⟨_, Go.Deep.blk_alloc_new _ _, size_madeCells _ _, fun i hi => ?_⟩
 have hlt : i % z.size < z.size := Nat.mod_lt _ h0
 have h := hz _ hlt
 rw [Array.getElem?_eq_getElem hlt] at h
 simp only [Option.some.injEq] at h
 simp [madeCells, hi, hlt, h]
theorem make_rows {P : Program} (t e : TypeId) (z : Value) (k bytes : Nat) (ht : P.underlying t = some (.slice e)) (hinfo : (P.info? e).map (fun i => (i.zero, i.size, i.bytes)) = some (some z, k, bytes))
 (kl kc : IntKind) (n : Nat) (hbytes : bytes * n ≤ 281474976710656) (h63 : n ≤ 9223372036854775807) (w : World) :
 (Instr.makeSlice t (.int kl (n : Int)) (.int kc (n : Int))).run P w = .ok (.slice (some ⟨w.heap.size, 0, none⟩) n n) (w.alloc (.cells (madeCells z.cells (n * k)) e)) := by
 obtain ⟨i, hi, hzz⟩ := Option.map_eq_some_iff.1 hinfo
 simp only [Prod.mk.injEq] at hzz
 obtain ⟨hz, hs, hb⟩ := hzz
 have hb' : (i.bytes : Int) * (n : Int) ≤ 281474976710656 := by
  have h : ((i.bytes * n : Nat) : Int) ≤ 281474976710656 := by rw [hb]; omega
  rwa [Int.natCast_mul] at h
 have hr := run_make (P := P) w t e i z ht hi hz kl kc n n (by omega) (Int.le_refl _) hb' (by omega)
 simp only [Int.toNat_natCast, hs] at hr
 exact hr
abbrev upto (p : Nat) (U : Nat → Int) : Nat → Int := fun q => if q < p then U q else 0
theorem Row.next {w : World} {b t m p : Nat} {U : Nat → Int} (h : Row w b t m (upto p U)) : Row (w.setCell ⟨b, p, none⟩ (.int .i64 (U p))) b t m (upto (p + 1) U) :=
 (h.set p (U p)).congr fun q _ => by
   by_cases e : q = p
   · subst e; simp [upto]
   · simp only [upto, if_neg e]
     by_cases l : q < p
     · rw [if_pos l, if_pos (by omega)]
     · rw [if_neg l, if_neg (by omega)]
theorem Row.zero {w : World} {b t m : Nat} {U : Nat → Int} (h : Row w b t m (fun _ => 0)) : Row w b t m (upto 0 U) := h.congr fun q hq => by simp [upto]
theorem Row.cut {w : World} {b t m p r : Nat} {U : Nat → Int} (h : Row w b t m (upto p U)) (e : p = r) : Row w b t m (upto r U) := e ▸ h
end Go.Proofs.YtalkkjhehndaoaaGreat
namespace Go.Proofs.YtalkkjhehndaoaaGreat
open Go.RowKit
set_option linter.unusedVariables false
set_option linter.unusedSimpArgs false
def numL (m : Nat) (U : Nat → Int) : List Value := (List.range m).map fun q => Value.int .i64 (U q)
theorem numL_len (m : Nat) (U : Nat → Int) : (numL m U).length = m := by simp [numL]
theorem numL_get {m : Nat} {U : Nat → Int} {q : Nat} (h : q < m) : (numL m U)[q]? = some (.int .i64 (U q)) := by simp [numL, h]
def cat (p : Nat) (U X : Nat → Int) : Nat → Int := fun q => if q < p then U q else X (q - p)
theorem numL_cat (p r : Nat) (U X : Nat → Int) : numL p U ++ numL r X = numL (p + r) (cat p U X) := by
 apply List.ext_getElem?
 intro q
 by_cases h : q < p
 · rw [List.getElem?_append_left (by rw [numL_len]; exact h), numL_get h, numL_get (by omega)]; simp [cat, h]
 · rw [List.getElem?_append_right (by rw [numL_len]; omega), numL_len]
   by_cases h2 : q < p + r
   · rw [numL_get (by omega), numL_get h2]; simp [cat, h]
   · rw [List.getElem?_eq_none (by rw [numL_len]; omega), List.getElem?_eq_none (by rw [numL_len]; omega)]
def OwnL (w : World) (base t k : Nat) (v : Value) (n : Nat) (U : Nat → Int) : Prop := w.ownsRow base t k v n (numL (n * k) U)
theorem OwnL.nil (w : World) (base t k : Nat) (U : Nat → Int) : OwnL w base t k (.slice none 0 0) 0 U := by
 unfold OwnL; rw [Nat.zero_mul]; exact World.ownsRow_nil w base t k
theorem OwnL.flat {w : World} {base t k n : Nat} {a : Option Addr} {c : Nat} {U : Nat → Int} (h : OwnL w base t k (.slice a n c) n U) : Flat w a (n * k) U := by
 intro h0
 rcases h.2 with ⟨hv, hn⟩ | ⟨g, cap, cur, hv, hb, hg, hle, hm, hs, ht⟩
 · subst hn; omega
 · simp only [Value.slice.injEq] at hv
   obtain ⟨rfl, _, rfl⟩ := hv
   have hlt : g < w.heap.size := (Array.getElem?_eq_some_iff.1 hg).1
   refine ⟨g, 0, rfl, hlt, fun q hq => ?_⟩
   have := World.ownsRow.cells h (g := g) rfl q _ (numL_get hq)
   rw [Addr.add_lit] at this
   exact this
theorem OwnL.congr {w : World} {base t k n : Nat} {v : Value} {U V : Nat → Int} (h : OwnL w base t k v n U) (e : ∀ q, q < n * k → U q = V q) : OwnL w base t k v n V := by
 unfold OwnL at *
 rw [show numL (n * k) V = numL (n * k) U from List.map_congr_left fun q hq => by rw [e q (List.mem_range.1 hq)]]
 exact h
theorem OwnL.kept {w w' : World} {base t k n : Nat} {v : Value} {U : Nat → Int} {row : Option Nat} (h : OwnL w base t k v n U) (hg : w.grownBy w' row) (hne : v.ownBlock = none ∨ v.ownBlock ≠ row) : OwnL w' base t k v n U := World.ownsRow.kept h hg hne
theorem below_grown {B : Nat} {w w' : World} (h : Below B w w') : B = w.heap.size → w.grownBy w' none := fun e => ⟨h.os, h.tape, h.output, h.size, fun k hk _ => h.block k (e ▸ hk)⟩
theorem OwnL.below {w w' : World} {base t k n : Nat} {v : Value} {U : Nat → Int} (h : OwnL w base t k v n U) (hb : Below w.heap.size w w') : OwnL w' base t k v n U := by
 have hg := below_grown hb rfl
 cases e : v.ownBlock with
 | none => exact World.ownsRow.kept h hg (.inl e)
 | some b => exact World.ownsRow.kept h hg (.inr (by rw [e]; simp))
theorem OwnL.lt {w : World} {base t k n : Nat} {v : Value} {U : Nat → Int} (h : OwnL w base t k v n U) : ∀ b, v.ownBlock = some b → base ≤ b ∧ b < w.heap.size := World.ownsRow.lt h
theorem OwnL.is {w : World} {base t k n : Nat} {v : Value} {U : Nat → Int} (h : OwnL w base t k v n U) : ∃ a c, v = .slice a n c := by
 rcases h.2 with ⟨hv, hn⟩ | ⟨g, cap, cur, hv, _⟩
 · exact ⟨none, 0, by rw [hv, hn]⟩
 · exact ⟨_, _, hv⟩
theorem OwnL.le {w : World} {base t k n : Nat} {a : Option Addr} {c : Nat} {U : Nat → Int} (h : OwnL w base t k (.slice a n c) n U) : n ≤ c := by
 rcases h.2 with ⟨hv, hn⟩ | ⟨g, cap, cur, hv, _, _, hle, _⟩
 · simp only [Value.slice.injEq] at hv; omega
 · simp only [Value.slice.injEq] at hv; omega
theorem Row.own {w : World} {b t n k base : Nat} {U : Nat → Int} (h : Row w b t (n * k) U) (hb : base ≤ b) (hn : n ≤ maxLen) : OwnL w base t k (.slice (some ⟨b, 0, none⟩) n n) n U := by
 obtain ⟨c, hc, hs, hv⟩ := h
 refine ⟨by rw [numL_len], .inr ⟨b, n, c, rfl, hb, hc, Nat.le_refl _, hn, hs, ?_⟩⟩
 apply List.ext_getElem?
 intro q
 by_cases hq : q < n * k
 · rw [List.getElem?_take, if_pos hq, numL_get hq, ← hv q hq]; simp
 · rw [List.getElem?_eq_none (by simp; omega), List.getElem?_eq_none (by rw [numL_len]; omega)]
theorem OwnL.base {w : World} {base t k n : Nat} {v : Value} {U : Nat → Int} {B : Nat} (h : OwnL w base t k v n U) (hB : B ≤ base) : OwnL w B t k v n U := by
 refine ⟨h.1, ?_⟩
 rcases h.2 with q | ⟨g, cap, cur, hv, hb, rest⟩
 · exact .inl q
 · exact .inr ⟨g, cap, cur, hv, by omega, rest⟩
theorem run_app {P : Program} (base t ty e k bytes : Nat) (z : Value) (ht : P.underlying t = some (.slice e)) (hinfo : (P.info? e).map (fun i => (i.zero, i.size, i.bytes)) = some (some z, k, bytes)) (hzs : z.cells.size = k) (hk : 0 < k)
 (w : World) (v : Value) (n : Nat) (U : Nat → Int) (h : OwnL w base e k v n U) (a : Option Addr) (m c : Nat) (X : Nat → Int) (hx : Flat w a (m * k) X)
 (h63 : n + m ≤ maxLen) (hbytes : (n + m) * bytes ≤ 140737488355328) (hbase : base ≤ w.heap.size) :
 ∃ a' c' w', (Builtin.append_ #[t, t] ty #[v, .slice a m c]).run P w = .ok (.slice a' (n + m) c') w' ∧ OwnL w' base e k (.slice a' (n + m) c') (n + m) (cat (n * k) U X) ∧ w.grownBy w' v.ownBlock := by
 obtain ⟨i, hi, hzz⟩ := Option.map_eq_some_iff.1 hinfo
 simp only [Prod.mk.injEq] at hzz
 obtain ⟨hz, hs, hb⟩ := hzz
 by_cases h0 : m = 0
 · subst h0
   obtain ⟨a0, c0, rfl⟩ := h.is
   have hle := h.le
   have hnone : Src P i.size t (.slice a 0 c) 0 [] w := by
    cases a with
    | none => exact Src.ofNil w ht c
    | some ad => exact Src.ofSlice w ht ad 0 c [] (by simp) (fun j u hu => by simp at hu) (fun _ hu => by cases hu)
   refine ⟨a0, c0, w, run_append_nothing w t t ty e i ht hi a0 n c0 hle _ hnone, h.congr fun q hq => by simp [cat, hq], ?_⟩
   exact ⟨rfl, rfl, rfl, Nat.le_refl _, fun _ _ _ => rfl⟩
 · obtain ⟨b, o, rfl, hbl, hc⟩ := hx (Nat.mul_pos (by omega) hk)
   obtain ⟨g, cap, w', hr, h2, h3, _⟩ := run_append_lies (P := P) w t ty base e i z k bytes ht hi hz hs hb hzs hk v n (numL (n * k) U) h ⟨b, o, none⟩ m c (numL (m * k) X) (numL_len _ _)
    (fun j u hu => by
      have hj : j < m * k := by have := (List.getElem?_eq_some_iff.1 hu).1; rwa [numL_len] at this
      rw [numL_get hj] at hu
      rw [Addr.add_lit, hc j hj]; exact hu)
    (fun u hu => by obtain ⟨q, _, rfl⟩ := List.mem_map.1 hu; rfl) (by omega) h63 hbytes hbase _ rfl
   refine ⟨_, _, w', hr, ?_, h3⟩
   unfold OwnL
   rw [Nat.add_mul, ← numL_cat]
   exact h2
section
variable {P : Program} {ops : Array Oper} {o : Oper} {a : Act} {Q : Exit → Act → World → Prop} {w : World}
theorem wp_app {K : Act → World → Prop} (s x : Operand) (t : TypeId) (ho : o.op = .call { callee := .builtin .append, args := #[s, x], argTypes := #[t, t] })
 (base e k bytes : Nat) (z : Value) (ht : P.underlying t = some (.slice e)) (hinfo : (P.info? e).map (fun i => (i.zero, i.size, i.bytes)) = some (some z, k, bytes)) (hzs : z.cells.size = k) (hk : 0 < k)
 (v : Value) (n : Nat) (U : Nat → Int) (hs : a.eval s = v) (h : OwnL w base e k v n U) (ad : Option Addr) (m c : Nat) (X : Nat → Int) (hxx : a.eval x = .slice ad m c) (hx : Flat w ad (m * k) X)
 (h63 : n + m ≤ maxLen) (hbytes : (n + m) * bytes ≤ 140737488355328) (hbase : base ≤ w.heap.size)
 (hK : ∀ a' c' w', OwnL w' base e k (.slice a' (n + m) c') (n + m) (cat (n * k) U X) → w.grownBy w' v.ownBlock → K (a.put o.dst (.slice a' (n + m) c')) w') : o.wp P a w K Q := by
 obtain ⟨a', c', w', hr, h2, h3⟩ := run_app (P := P) base t o.type e k bytes z ht hinfo hzs hk w v n U h ad m c X hx h63 hbytes hbase
 unfold Oper.wp execOp
 simp only [ho, resolve, invoke, builtin, Sem.run_bind, Sem.run_pure, Result.andThen_ok, List.map_toArray, List.map_cons, List.map_nil, hs, hxx, hr]
 exact hK _ _ _ h2 h3
theorem wpList_app {rest : List Oper} (hgd : o.guard = none) (s x : Operand) (t : TypeId) (ho : o.op = .call { callee := .builtin .append, args := #[s, x], argTypes := #[t, t] })
 (base e k bytes : Nat) (z : Value) (ht : P.underlying t = some (.slice e)) (hinfo : (P.info? e).map (fun i => (i.zero, i.size, i.bytes)) = some (some z, k, bytes)) (hzs : z.cells.size = k) (hk : 0 < k)
 (v : Value) (n : Nat) (U : Nat → Int) (hs : a.eval s = v) (h : OwnL w base e k v n U) (ad : Option Addr) (m c : Nat) (X : Nat → Int) (hxx : a.eval x = .slice ad m c) (hx : Flat w ad (m * k) X)
 (h63 : n + m ≤ maxLen) (hbytes : (n + m) * bytes ≤ 140737488355328) (hbase : base ≤ w.heap.size)
 (hK : ∀ a' c' w', OwnL w' base e k (.slice a' (n + m) c') (n + m) (cat (n * k) U X) → w.grownBy w' v.ownBlock → wpList P ops Q rest (a.put o.dst (.slice a' (n + m) c')) w') : wpList P ops Q (o :: rest) a w :=
 wpList_plain hgd fun _ hK' => wp_app s x t ho base e k bytes z ht hinfo hzs hk v n U hs h ad m c X hxx hx h63 hbytes hbase fun a' c' w' h2 h3 => hK' _ _ (hK a' c' w' h2 h3)
end
end Go.Proofs.YtalkkjhehndaoaaGreat
namespace Go.Proofs.YtalkkjhehndaoaaGreat
open Go.RowKit
set_option linter.unusedVariables false
set_option linter.unusedSimpArgs false
theorem _root_.Go.RowKit.Below.ofDr {B : Nat} {w w' : World} (h : Below B w.drew w') : Below B w w' := ⟨h.os, h.tape, h.output, h.size, h.block⟩
structure Fr (X : Nat → Prop) (w w' : World) : Prop where
 os : w'.os = w.os
 tape : w'.tape = w.tape
 output : w'.output = w.output
 size : w.heap.size ≤ w'.heap.size
 block : ∀ k, k < w.heap.size → ¬ X k → w'.heap[k]? = w.heap[k]?
 kind : ∀ (k : Nat) (o : Obj), w.heap[k]? = some o → o.isCells = false → w'.heap[k]? = some o
theorem Fr.refl (X : Nat → Prop) (w : World) : Fr X w w := ⟨rfl, rfl, rfl, Nat.le_refl _, fun _ _ _ => rfl, fun _ _ h _ => h⟩
theorem Fr.trans' {X Y : Nat → Prop} {a b c : World} (h : Fr X a b) (k : Fr Y b c) (hXY : ∀ i, i < a.heap.size → Y i → X i) : Fr X a c :=
 ⟨k.os.trans h.os, k.tape.trans h.tape, k.output.trans h.output, Nat.le_trans h.size k.size, fun i hi hn => (k.block i (Nat.lt_of_lt_of_le hi h.size) (fun y => hn (hXY i hi y))).trans (h.block i hi hn), fun i o hi ho => k.kind i o (h.kind i o hi ho) ho⟩
theorem Fr.trans {X : Nat → Prop} {a b c : World} (h : Fr X a b) (k : Fr X b c) : Fr X a c := h.trans' k fun _ _ x => x
theorem Fr.of_below {X : Nat → Prop} {w w' : World} (h : Below w.heap.size w w') : Fr X w w' := ⟨h.os, h.tape, h.output, h.size, fun k hk _ => h.block k hk, fun k o hk _ => (h.block k (Array.getElem?_eq_some_iff.1 hk).1).trans hk⟩
theorem Fr.below {X : Nat → Prop} {B : Nat} {w w' : World} (h : Fr X w w') (hB : B ≤ w.heap.size) (hX : ∀ k, X k → B ≤ k) : Below B w w' := ⟨h.os, h.tape, h.output, h.size, fun k hk => h.block k (by omega) (fun x => by have := hX k x; omega)⟩
theorem Fr.others {X : Nat → Prop} {w w' : World} (h : Fr X w w') : KeepsOthers w w' := ⟨h.size, h.kind⟩
theorem Fr.keeps {X : Nat → Prop} {w w' : World} (h : Fr X w w') (B : Nat) : KeepsFrom B w w' := h.others.from B
theorem Fr.cell {X : Nat → Prop} {w w' : World} (h : Fr X w w') {p : Addr} (hp : p.block < w.heap.size) (hn : ¬ X p.block) : w'.cell? p = w.cell? p := World.cell?_of_block (w := w) (h.block p.block hp hn)
theorem Fr.frozen {X : Nat → Prop} {w w' : World} (h : Fr X w w') {p : Addr} (hp : p.block < w.heap.size) (hn : ¬ X p.block) : w'.frozen? p = w.frozen? p := World.frozen?_of_block (w := w) (h.block p.block hp hn)
theorem Fr.mono {X Y : Nat → Prop} {w w' : World} (h : Fr X w w') (hXY : ∀ k, k < w.heap.size → X k → Y k) : Fr Y w w' := ⟨h.os, h.tape, h.output, h.size, fun k hk hn => h.block k hk (fun x => hn (hXY k hk x)), h.kind⟩
theorem Fr.setCell {X : Nat → Prop} {w : World} {p : Addr} (hp : X p.block) (v : Value) : Fr X w (w.setCell p v) :=
 ⟨rfl, rfl, rfl, by simp [World.setCell], fun k _ hn => Below.heap_setCell _ _ _ _ (fun e => hn (by subst e; exact hp)), (KeepsOthers.setCell w p v).same⟩
theorem Fr.grown {X : Nat → Prop} {w w' : World} {row : Option Nat} (hg : w.grownBy w' row) (hX : ∀ b, row = some b → X b) (hc : ∀ b o, row = some b → w.heap[b]? = some o → o.isCells = true) : Fr X w w' :=
 ⟨hg.os, hg.tape, hg.output, hg.size, fun k hk hn => hg.block k hk (fun e => hn (hX k e.symm)), fun k o hk ho => (hg.block k (Array.getElem?_eq_some_iff.1 hk).1 (fun e => by have := hc k o e.symm hk; rw [ho] at this; cases this)).trans hk⟩
theorem Fr.drew {X : Nat → Prop} {w w' : World} (h : Fr X w w') : Fr X w w'.drew := h.trans (Fr.of_below (Below.drew (Below.refl _ _)))
theorem OwnL.isCells {w : World} {base t k n : Nat} {v : Value} {U : Nat → Int} (h : OwnL w base t k v n U) : ∀ b o, v.ownBlock = some b → w.heap[b]? = some o → o.isCells = true := by
 intro b o hb ho
 rcases h.2 with ⟨hv, _⟩ | ⟨g, cap, cur, hv, _, hg, _⟩
 · subst hv; cases hb
 · subst hv
   simp only [Value.ownBlock, Option.some.injEq] at hb
   subst hb
   rw [hg] at ho
   cases ho
   rfl
theorem OwnL.sm {w w' : World} {B base t k n : Nat} {v : Value} {U : Nat → Int} (h : OwnL w base t k v n U) (hs : Sm B w w') : OwnL w' base t k v n U := by
 refine ⟨h.1, ?_⟩
 rcases h.2 with q | ⟨g, cap, cur, hv, hb, hg, rest⟩
 · exact .inl q
 · exact .inr ⟨g, cap, cur, hv, hb, hs.cells _ _ hg rfl, rest⟩
theorem OwnL.frame {X : Nat → Prop} {w w' : World} {base t k n : Nat} {v : Value} {U : Nat → Int} (h : OwnL w base t k v n U) (hs : Fr X w w') (hX : ∀ b, v.ownBlock = some b → ¬ X b) : OwnL w' base t k v n U := by
 refine ⟨h.1, ?_⟩
 rcases h.2 with q | ⟨g, cap, cur, hv, hb, hg, rest⟩
 · exact .inl q
 · exact .inr ⟨g, cap, cur, hv, hb, (hs.block _ (Array.getElem?_eq_some_iff.1 hg).1 (hX g (by rw [hv]; rfl))).trans hg, rest⟩
theorem OwnL.some {w : World} {base t k n : Nat} {v : Value} {U : Nat → Int} (h : OwnL w base t k v n U) (hn : 0 < n) : ∃ g c, v = .slice (Option.some ⟨g, 0, none⟩) n c := by
 rcases h.2 with ⟨_, e⟩ | ⟨g, cap, cur, hv, _⟩
 · omega
 · exact ⟨g, cap, hv⟩
theorem OwnL.at1 {w : World} {base t n g c : Nat} {U : Nat → Int} (h : OwnL w base t 1 (.slice (Option.some ⟨g, 0, none⟩) n c) n U) {j : Nat} (hj : j < n) : w.cell? ⟨g, j, none⟩ = Option.some (.int .i64 (U j)) := by
 have := World.ownsRow.cellAt h j (by omega)
 rw [this, numL_get (by omega)]
theorem OwnL.fro {w : World} {base t k n g c : Nat} {U : Nat → Int} (h : OwnL w base t k (.slice (Option.some ⟨g, 0, none⟩) n c) n U) (j : Nat) : w.frozen? ⟨g, j, none⟩ = false := World.ownsRow.frozenAt h j
theorem OwnL.put {w : World} {base t n g c : Nat} {U : Nat → Int} (h : OwnL w base t 1 (.slice (Option.some ⟨g, 0, none⟩) n c) n U) {j : Nat} (hj : j < n) (y : Int) : OwnL (w.setCell ⟨g, j, none⟩ (.int .i64 y)) base t 1 (.slice (Option.some ⟨g, 0, none⟩) n c) n (fun q => if q = j then y else U q) := by
 have h1 := (World.ownsRow.stored h j (.int .i64 y)).1
 unfold OwnL
 rw [show numL (n * 1) (fun q => if q = j then y else U q) = (numL (n * 1) U).set j (.int .i64 y) from ?_]
 · exact h1
 · apply List.ext_getElem?
   intro q
   rw [List.getElem?_set, numL_len]
   by_cases hq : q < n * 1
   · rw [numL_get hq]
     by_cases e : j = q
     · subst e; simp; omega
     · rw [if_neg e, numL_get hq]; simp [Ne.symm e]
   · rw [List.getElem?_eq_none (by rw [numL_len]; omega)]
     by_cases e : j = q
     · omega
     · rw [if_neg e, List.getElem?_eq_none (by rw [numL_len]; omega)]
def snoc (n : Nat) (U : Nat → Int) (y : Int) : Nat → Int := fun q => if q = n then y else U q
theorem step_app1 {P : Program} {w : World} {ops : Array Oper} {o : Oper} {a : Act} {K : Act → World → Prop} {Q : Exit → Act → World → Prop} {E : Prop} (hgd : o.guard = none) (s x : Operand) (t : TypeId)
 (ho : o.op = .call { callee := .builtin .append, args := #[s, x], argTypes := #[t, t] })
 (base e : Nat) (z : Value) (ht : P.underlying t = some (.slice e)) (hinfo : (P.info? e).map (fun i => (i.zero, i.size, i.bytes)) = some (some z, 1, 8)) (hzs : z.cells.size = 1)
 (v : Value) (n : Nat) (U : Nat → Int) (hs : a.eval s = v) (h : OwnL w base e 1 v n U) (B c : Nat) (y : Int) (hx : a.eval x = .slice (some ⟨B, 0, none⟩) 1 c) (hv : w.cell? ⟨B, 0, none⟩ = some (.int .i64 y))
 (hn : n ≤ 1048576) (hbase : base ≤ w.heap.size) (H : Nat) (hH : w.heap.size = H)
 (hK : ∀ g cap w', OwnL w' base e 1 (.slice (some ⟨g, 0, none⟩) (n + 1) cap) (n + 1) (snoc n U y) → w.grownBy w' v.ownBlock → (v.ownBlock = some g ∨ g = H) → g < w'.heap.size → K (a.put o.dst (.slice (some ⟨g, 0, none⟩) (n + 1) cap)) w') :
 if Region.wanted o (yielded ops a.tmps) = true then Oper.wp P o a w K Q else E := by
 obtain ⟨i, hi, hzz⟩ := Option.map_eq_some_iff.1 hinfo
 simp only [Prod.mk.injEq] at hzz
 obtain ⟨hz, hsz, hby⟩ := hzz
 refine step_append_lies w hgd s x t ho base e i z 1 8 ht hi hz hsz hby hzs (by omega) v n (numL (n * 1) U) hs h ⟨B, 0, none⟩ 1 c [.int .i64 y] hx (by simp) ?_ (by intro u hu; simp at hu; subst hu; rfl) (by omega) (by unfold maxLen; omega) (by omega) hbase H hH ?_
 · intro j u hu
   cases j with
   | zero => simp at hu; subst hu; simpa [Addr.add] using hv
   | succ n => simp at hu
 · intro g cap w' h2 h3 h4 h5
   refine hK g cap w' ?_ h3 h4 h5
   unfold OwnL
   rw [show numL ((n + 1) * 1) (snoc n U y) = numL (n * 1) U ++ [.int .i64 y] from ?_]
   · exact h2
   · apply List.ext_getElem?
     intro q
     rcases Nat.lt_trichotomy q n with l | l | l
     · rw [List.getElem?_append_left (by rw [numL_len]; omega), numL_get (by omega), numL_get (by omega), snoc, if_neg (by omega)]
     · subst l; rw [List.getElem?_append_right (by rw [numL_len]; omega), numL_len, numL_get (by omega)]; simp [snoc]
     · rw [List.getElem?_append_right (by rw [numL_len]; omega), numL_len, List.getElem?_eq_none (by rw [numL_len]; omega), List.getElem?_eq_none (by simp; omega)]
structure Cs (w : World) (cb n : Nat) (C : Nat → Nat → Int) (S : Nat → Value) : Prop where
 hd : ∀ i, i < 12 → w.cell? ⟨cb, i, none⟩ = some (S i)
 nf : ∀ i, i < 12 → w.frozen? ⟨cb, i, none⟩ = false
 own : ∀ i, i < 12 → OwnL w cb 70 1 (S i) n (C i)
 ncb : ∀ i, i < 12 → ∀ b, (S i).ownBlock = some b → b ≠ cb
 dis : ∀ i j, i < 12 → j < 12 → i ≠ j → ∀ b, (S i).ownBlock = some b → (S j).ownBlock ≠ some b
def Xc (S : Nat → Value) : Nat → Prop := fun k => ∃ i, i < 12 ∧ (S i).ownBlock = some k
theorem Cs.lt {w : World} {cb n : Nat} {C : Nat → Nat → Int} {S : Nat → Value} (h : Cs w cb n C S) : cb < w.heap.size := cell_lt (a := ⟨cb, 0, none⟩) (h.hd 0 (by omega))
theorem Cs.xlt {w : World} {cb n : Nat} {C : Nat → Nat → Int} {S : Nat → Value} (h : Cs w cb n C S) {b : Nat} (hb : Xc S b) : cb < b ∧ b < w.heap.size := by
 obtain ⟨i, hi, e⟩ := hb
 have := (h.own i hi).lt b e
 have := h.ncb i hi b e
 omega
theorem Cs.below {w w' : World} {cb n : Nat} {C : Nat → Nat → Int} {S : Nat → Value} (h : Cs w cb n C S) (hb : Below w.heap.size w w') : Cs w' cb n C S :=
 ⟨fun i hi => (hb.cell (p := ⟨cb, i, none⟩) h.lt).trans (h.hd i hi), fun i hi => (hb.frozen (p := ⟨cb, i, none⟩) h.lt).trans (h.nf i hi), fun i hi => (h.own i hi).below hb, h.ncb, h.dis⟩
theorem Cs.sm {w w' : World} {B cb n : Nat} {C : Nat → Nat → Int} {S : Nat → Value} (h : Cs w cb n C S) (hs : Sm B w w') : Cs w' cb n C S :=
 ⟨fun i hi => hs.cell (h.hd i hi), fun i hi => hs.frozen (h.hd i hi) (h.nf i hi), fun i hi => (h.own i hi).sm hs, h.ncb, h.dis⟩
theorem Cs.frame {X : Nat → Prop} {w w' : World} {cb n : Nat} {C : Nat → Nat → Int} {S : Nat → Value} (h : Cs w cb n C S) (hs : Fr X w w') (h0 : ¬ X cb) (hX : ∀ b, Xc S b → ¬ X b) : Cs w' cb n C S :=
 ⟨fun i hi => (hs.cell (p := ⟨cb, i, none⟩) h.lt h0).trans (h.hd i hi), fun i hi => (hs.frozen (p := ⟨cb, i, none⟩) h.lt h0).trans (h.nf i hi), fun i hi => (h.own i hi).frame hs fun b hb => hX b ⟨i, hi, hb⟩, h.ncb, h.dis⟩
theorem Cs.congr {w : World} {cb n : Nat} {C C' : Nat → Nat → Int} {S : Nat → Value} (h : Cs w cb n C S) (e : ∀ i k, i < 12 → k < n → C i k = C' i k) : Cs w cb n C' S :=
 ⟨h.hd, h.nf, fun i hi => (h.own i hi).congr fun q hq => e i q hi (by omega), h.ncb, h.dis⟩
structure Cell1 (w : World) (cb n i k : Nat) (y : Int) (g c : Nat) : Prop where
 hd : w.cell? ⟨cb, i, none⟩ = some (.slice (some ⟨g, 0, none⟩) n c)
 at_ : w.cell? ⟨g, k, none⟩ = some (.int .i64 y)
 fro : w.frozen? ⟨g, k, none⟩ = false
 gl : g < w.heap.size
 cg : cb < g
theorem Cs.at {w : World} {cb n : Nat} {C : Nat → Nat → Int} {S : Nat → Value} (h : Cs w cb n C S) {i k : Nat} (hi : i < 12) (hk : k < n) : ∃ g c, S i = .slice (some ⟨g, 0, none⟩) n c ∧ Cell1 w cb n i k (C i k) g c := by
 obtain ⟨g, c, e⟩ := (h.own i hi).some (by omega)
 have ho := h.own i hi
 have hh := h.hd i hi
 rw [e] at ho hh
 have hl := h.xlt (b := g) ⟨i, hi, by rw [e]; rfl⟩
 exact ⟨g, c, e, hh, ho.at1 hk, ho.fro k, hl.2, hl.1⟩
def setC (C : Nat → Nat → Int) (i k : Nat) (y : Int) : Nat → Nat → Int := fun i' k' => if i' = i ∧ k' = k then y else C i' k'
theorem Cs.set {w : World} {cb n : Nat} {C : Nat → Nat → Int} {S : Nat → Value} (h : Cs w cb n C S) {i k g c : Nat} (hi : i < 12) (hk : k < n) (e : S i = .slice (some ⟨g, 0, none⟩) n c) (y : Int) : Cs (w.setCell ⟨g, k, none⟩ (.int .i64 y)) cb n (setC C i k y) S := by
 have hx : Xc S g := ⟨i, hi, by rw [e]; rfl⟩
 have hl := h.xlt hx
 have hf : Fr (fun b => b = g) w (w.setCell ⟨g, k, none⟩ (.int .i64 y)) := Fr.setCell (X := fun b => b = g) rfl _
 refine ⟨fun j hj => (hf.cell (p := ⟨cb, j, none⟩) h.lt (by show ¬ cb = g; omega)).trans (h.hd j hj), fun j hj => (hf.frozen (p := ⟨cb, j, none⟩) h.lt (by show ¬ cb = g; omega)).trans (h.nf j hj), fun j hj => ?_, h.ncb, h.dis⟩
 by_cases eij : j = i
 · subst eij
   have ho := h.own j hj
   rw [e] at ho ⊢
   exact (ho.put hk y).congr fun q _ => by by_cases eq : q = k <;> simp [setC, eq]
 · refine ((h.own j hj).frame hf fun b hb eb => ?_).congr fun q _ => by simp [setC, eij]
   subst eb
   exact h.dis i j hi hj (Ne.symm eij) b (by rw [e]; rfl) hb
end Go.Proofs.YtalkkjhehndaoaaGreat
namespace Go.Proofs.YtalkkjhehndaoaaGreat
open Go.RowKit
set_option linter.unusedVariables false
structure Kx (B H : Nat) (A A' : World) : Prop where
 below : Below B A A'
 cells : ∀ (k : Nat) (o : Obj), A.heap[k]? = some o → o.isCells = true → H ≤ k → A'.heap[k]? = some o
structure Kc (B H : Nat) (A A' : World) : Prop where
 others : KeepsFrom B A A'
 band : ∀ (k : Nat) (o : Obj), B ≤ k → k < H → A.heap[k]? = some o → o.isCells = true → A'.heap[k]? = some o
theorem Kx.refl (B H : Nat) (A : World) : Kx B H A A := ⟨Below.refl _ _, fun _ _ h _ _ => h⟩
theorem Kx.trans {B H : Nat} {X Y Z : World} (h : Kx B H X Y) (k : Kx B H Y Z) : Kx B H X Z := ⟨h.below.trans k.below, fun i o hi ho hH => k.cells i o (h.cells i o hi ho hH) ho hH⟩
theorem Kx.size {B H : Nat} {X Y : World} (h : Kx B H X Y) : X.heap.size ≤ Y.heap.size := h.below.size
theorem Kx.sm {B H B' : Nat} {X Y Z : World} (h : Kx B H X Y) (k : Sm B' Y Z) (hB : B ≤ B') : Kx B H X Z := ⟨h.below.trans (k.below.mono hB), fun i o hi ho hH => k.cells i o (h.cells i o hi ho hH) ho⟩
theorem Kx.of_sm {B H B' : Nat} {X Y : World} (k : Sm B' X Y) (hB : B ≤ B') : Kx B H X Y := (Kx.refl B H X).sm k hB
theorem Kx.fr {B H : Nat} {X Y Z : World} {T : Nat → Prop} (h : Kx B H X Y) (k : Fr T Y Z) (hT : ∀ b, T b → B ≤ b ∧ (b < H ∨ X.heap.size ≤ b)) (hB : B ≤ X.heap.size) : Kx B H X Z :=
 ⟨h.below.trans (k.below (Nat.le_trans hB h.size) (fun b e => (hT b e).1)), fun i o hi ho hH => by
  have hl : i < X.heap.size := (Array.getElem?_eq_some_iff.1 hi).1
  exact (k.block i (Nat.lt_of_lt_of_le hl h.size) (fun e => by have := (hT i e).2; omega)).trans (h.cells i o hi ho hH)⟩
theorem Kx.of_below {B H : Nat} {X Y : World} (k : Below X.heap.size X Y) (hB : B ≤ X.heap.size) : Kx B H X Y :=
 ⟨k.mono hB, fun i o hi _ _ => (k.block i (Array.getElem?_eq_some_iff.1 hi).1).trans hi⟩
theorem Kc.refl (B H : Nat) (A : World) : Kc B H A A := ⟨KeepsFrom.refl _ _, fun _ _ _ _ h _ => h⟩
theorem Kc.trans {B H : Nat} {X Y Z : World} (h : Kc B H X Y) (k : Kc B H Y Z) : Kc B H X Z := ⟨h.others.trans k.others, fun i o a b c d => k.band i o a b (h.band i o a b c d) d⟩
theorem Kc.fr {B H : Nat} {X Y : World} {T : Nat → Prop} (k : Fr T X Y) (hT : ∀ b, T b → b < B ∨ H ≤ b) : Kc B H X Y :=
 ⟨k.keeps B, fun i o hB hH hi ho => (k.block i (Array.getElem?_eq_some_iff.1 hi).1 (fun e => by have := hT i e; omega)).trans hi⟩
theorem Kc.of_below {B H : Nat} {X Y : World} (k : Below X.heap.size X Y) : Kc B H X Y := Kc.fr (T := fun _ => False) (Fr.of_below k) (fun _ h => h.elim)
theorem Kc.putObj {B H l : Nat} {X : World} (o : Obj) (h : l < B) : Kc B H X (X.putObj l o) :=
 ⟨⟨by simp [World.putObj], fun k x hk hx _ => (World.putObj_heap_other (by omega)).trans hx⟩, fun k x hB _ hx _ => (World.putObj_heap_other (by omega)).trans hx⟩
theorem Kc.cell {B H : Nat} {X Y : World} (h : Kc B H X Y) {p : Addr} {v : Value} (hc : X.cell? p = some v) (h1 : B ≤ p.block) (h2 : p.block < H) : Y.cell? p = some v := by
 obtain ⟨o, ho, hx⟩ := isCells_of_cell hc
 exact (World.cell?_of_block ((h.band _ _ h1 h2 ho hx).trans ho.symm)).trans hc
def ItG (P : Program) (gf : Nat) (bound : Array Value) (Col : World → Prop) (E : Nat → Nat → Array Value → World → Prop) (nn : Nat) (w : World) : Prop :=
 ∀ (l : Nat) (J : Nat → Nat → World → Prop) (W : World), Below w.heap.size w W →
  (∀ H k A A', J H k A → Kx W.heap.size H A A' → J H k A') → (∀ H k A, J H k A → Col A) →
  (∀ W0, Below W.heap.size W W0 → J W0.heap.size 0 W0) →
  (∀ H k A args, J H k A → k < nn → E H k args A → YieldAt Fence.wide 0 P l args A fun e A' => e = .returned (.bool true) ∧ J H (k + 1) A' ∧ Kc W.heap.size H A A') →
  CallsIn Fence.wide 0 P gf (bound ++ #[.func (.yield l) #[] #[]]) W fun e A => (∃ v, e = .returned v) ∧ ∃ H, J H nn A
theorem yield_roundG {P : Program} {ps : Array Tmp} {assign body : Code} {a : Act} {B l dl : Nat} {fn : FuncId} {args : Array Value} (hps : args.size = ps.size)
 {I' : World → Prop} (hI' : ∀ A r o, I' A → A.heap[l]? = some (.loop r) → I' (A.putObj l (.loop o))) {Hh : World → Prop} (hH : ∀ A B', Hh A → KeepsFrom B A B' → Hh B') (hHp : ∀ A o, Hh A → Hh (A.putObj l o))
 {rec : LoopState → Option Code → Loop} (hrec : rec = fun st pe => { state := st, pending := pe, fn, tmps := a.tmps, params := ps, assign, body, defers := dl }) (hBl : B ≤ l)
 {W : World} (hl : W.heap[l]? = some (.loop (rec .ready none))) (hh : Hh W)
 (hround : assign.wpIn (Fence.wide.inRound l) 0 P (Exit.then (fun a₁ W₁ => KeepsFrom B W W₁ ∧ ∀ W₂, Sm B W₁ W₂ → (∀ B' H', l < B' → Kc B' H' W₁ W₂) → (∃ r, W₂.heap[l]? = some (.loop r)) → body.wpIn (Fence.wide.inRound l) 0 P (rdPost B I' (fun _ _ => False) W₂) a₁ W₂) (fun _ _ _ => False))
   { tmps := (ps.zip args).foldl (fun t (p, v) => t.setIfInBounds p v) a.tmps, defers := [] } W) :
 YieldAt Fence.wide 0 P l args W fun e W' => e = .returned (.bool true) ∧ I' W' ∧ W'.heap[l]? = some (.loop (rec .ready none)) ∧ Hh W' := by
 have hy := run_yield (P := P) (args := args) hl (by rw [hrec]; exact hps)
 rw [hrec] at hy
 refine ⟨fn, _, assign, body, hy, roundIn_of_wpIn trivial (wpIn_mono hround ?_)⟩
 intro e a₁ W₁ q
 cases e with
 | normal =>
  obtain ⟨hk1, hb⟩ := q
  have hl1 := hk1.same _ _ hBl hl rfl
  have hh1 := hH _ _ hh hk1
  refine ⟨_, run_beginRound hl1 (by rw [hrec]), ?_⟩
  have hlt : l < W₁.heap.size := (Array.getElem?_eq_some_iff.1 hl1).1
  have hl2 : (W₁.putObj l (.loop { rec .ready none with state := .busy })).heap[l]? = some (.loop { rec .ready none with state := .busy }) := World.putObj_heap_same hlt
  refine wpIn_mono (hb _ (Sm.putObj _ hl1 rfl hBl) (fun B' H' h => Kc.putObj _ h) ⟨_, hl2⟩) ?_
  rintro e a3 W3 hp
  cases e with
  | normal =>
   obtain ⟨hk3, hi3⟩ := hp
   have hl3 := hk3.same _ _ hBl hl2 rfl
   have hr := run_endRound (P := P) none hl3
   have hr' : (Instr.endRound l none).run P W3 = .ok (.bool true) (W3.putObj l (.loop (rec .ready none))) := by rw [hrec] at hr ⊢; exact hr
   exact ⟨_, _, hr', rfl, hI' _ _ _ hi3 hl3, World.putObj_heap_same (Array.getElem?_eq_some_iff.1 hl3).1, hHp _ _ (hH _ _ (hHp _ _ hh1) hk3)⟩
  | ret => exact hp.2.elim
  | exit id => exact hp.2.elim
  | goto t => exact hp.2.elim
  | panic ch => exact hp.elim
  | outgrown => exact hp.elim
 | exit id => exact q.elim
 | goto t => exact q.elim
 | ret => exact q.elim
 | panic ch => exact q.elim
 | outgrown => exact q.elim
theorem wp_range_outG {P : Program} {g : Operand} {ps : Array Tmp} {assign body : Code} {Q : Exit → Act → World → Prop} {a : Act} {w : World} {gf : Nat} {bound : Array Value}
 (hg : a.eval g = .func (.func gf) bound #[]) (eg : ∀ args w, (callFunc gf args).run P w = .ok (.enter gf args) w)
 {Col : World → Prop} {E : Nat → Nat → Array Value → World → Prop} {nn : Nat} (hit : ItG P gf bound Col E nn w) (hps : ∀ H k args A, E H k args A → args.size = ps.size)
 (I : Nat → Nat → World → Prop) (hI : ∀ H k A B, I H k A → Kx (w.heap.size + 2) H A B → I H k B) (hIs : ∀ H k A B, I H k A → Sm w.heap.size A B → I H k B) (hcol : ∀ H k A, I H k A → Col A)
 (h0 : ∀ W0, Below w.heap.size w W0 → w.heap.size + 2 ≤ W0.heap.size → I W0.heap.size 0 W0)
 (hround : ∀ l H k W args, w.heap.size ≤ l → l < w.heap.size + 2 → w.heap.size + 2 ≤ W.heap.size → I H k W → k < nn → E H k args W →
   assign.wpIn (Fence.wide.inRound l) 0 P (Exit.then (fun a₁ W₁ => KeepsFrom w.heap.size W W₁ ∧ ∀ W₂, Sm w.heap.size W₁ W₂ → (∀ B' H', l < B' → Kc B' H' W₁ W₂) → (∃ r, W₂.heap[l]? = some (.loop r)) →
    body.wpIn (Fence.wide.inRound l) 0 P (rdPost w.heap.size (fun W' => I H (k + 1) W' ∧ Kc (w.heap.size + 2) H W W') (fun _ _ => False) W₂) a₁ W₂) (fun _ _ _ => False))
   { tmps := (ps.zip args).foldl (fun t (p, v) => t.setIfInBounds p v) a.tmps, defers := [] } W)
 (hdone : ∀ (D H : Nat) (W : World), w.heap.size ≤ D → I H nn W → W.heap[D]? = some (.deferred (some [])) → Q .normal { a with defers := { target := .collected D, args := #[] } :: a.defers } W) :
 (Code.rangeFunc g ps assign body).wp P Q a w := by
 refine wpIn_wide.1 (wpIn_rangeFunc (n := 0) ?_)
 intro fn _
 obtain ⟨rec, hrec⟩ : ∃ rec : LoopState → Option Code → Loop, rec = fun st pe => { state := st, pending := pe, fn, tmps := a.tmps, params := ps, assign, body, defers := w.heap.size } := ⟨_, rfl⟩
 obtain ⟨W1, hW1⟩ : ∃ W1, (w.alloc (.deferred (some []))).alloc (.loop (rec .ready none)) = W1 := ⟨_, rfl⟩
 have hb1 : Below w.heap.size w W1 := by rw [← hW1]; exact ((Below.refl _ w).alloc (Nat.le_refl _) _).alloc (by simp) _
 have hz1 : W1.heap.size = w.heap.size + 2 := by rw [← hW1]; simp
 have hL1 : W1.heap[w.heap.size + 1]? = some (.loop (rec .ready none)) := by
  rw [← hW1]; have := World.alloc_heap_new (w.alloc (.deferred (some []))) (.loop (rec .ready none)); rwa [World.size_alloc] at this
 have hK1 : W1.heap[w.heap.size]? = some (.deferred (some [])) := by
  rw [← hW1]; exact (Below.heap_alloc _ _ _ (by simp)).trans (World.alloc_heap_new w _)
 refine ⟨w.heap.size + 1, [{ target := .collected w.heap.size, args := #[] }], W1, { target := .fn (.func gf) #[], args := bound ++ #[.func (.yield (w.heap.size + 1)) #[] #[]] }, W1, gf,
  bound ++ #[.func (.yield (w.heap.size + 1)) #[] #[]], W1, ?_, ?_, fun _ _ => trivial, ?_, (fun e => by cases e), ?_⟩
 · rw [← hW1, hrec]; exact run_enterLoop_outer _ _ _ _ _
 · simp only [resolve, hg]
   simp [go_sem]
 · simp [invoke, go_sem, eg]
 · refine (hit (w.heap.size + 1)
    (fun H k W => I H k W ∧ W.heap[w.heap.size + 1]? = some (.loop (rec .ready none)) ∧ W.heap[w.heap.size]? = some (.deferred (some [])) ∧ w.heap.size + 2 ≤ W.heap.size)
    W1 hb1 ?_ ?_ ?_ ?_).mono ?_
   · rintro H k A B ⟨h1, h2, h3, h4⟩ hb
     rw [hz1] at hb
     exact ⟨hI _ _ _ _ h1 hb, (hb.below.block _ (by omega)).trans h2, (hb.below.block _ (by omega)).trans h3, Nat.le_trans h4 hb.size⟩
   · rintro H k A ⟨h1, _⟩
     exact hcol _ _ _ h1
   · intro W0 hb
     exact ⟨h0 W0 (hb1.trans (hb.mono (by omega))) (by have := hb.size; omega), (hb.block _ (by omega)).trans hL1, (hb.block _ (by omega)).trans hK1, by have := hb.size; omega⟩
   · rintro H k W args ⟨h1, h2, h3, h4⟩ hk hE
     rw [hz1]
     refine (yield_roundG (P := P) (ps := ps) (assign := assign) (body := body) (a := a) (B := w.heap.size) (l := w.heap.size + 1) (dl := w.heap.size) (fn := fn) (args := args) (hps _ _ _ _ hE)
      (I' := fun W' => I H (k + 1) W' ∧ Kc (w.heap.size + 2) H W W') (fun A r o h hl => ⟨hIs _ _ _ _ h.1 (Sm.putObj _ hl rfl (by omega)), h.2.trans (Kc.putObj _ (by omega))⟩)
      (Hh := fun W => W.heap[w.heap.size]? = some (.deferred (some [])) ∧ w.heap.size + 2 ≤ W.heap.size) (fun A B h hk => ⟨hk.same _ _ (Nat.le_refl _) h.1 rfl, Nat.le_trans h.2 hk.size⟩) (fun A o h => ⟨(World.putObj_heap_other (by omega)).trans h.1, by simpa [World.putObj] using h.2⟩) hrec (by omega) h2 ⟨h3, h4⟩
      (hround _ H k W args (by omega) (by omega) h4 h1 hk hE)).mono ?_
     rintro e W' ⟨e1, ⟨h1, hc⟩, h2, h3, h4⟩
     exact ⟨e1, ⟨h1, h2, h3, h4⟩, hc⟩
   · rintro e W2 ⟨⟨v, rfl⟩, H, hi, hl, hk, _⟩
     exact ⟨none, _, by have := run_endLoop (P := P) hl (by rw [hrec]; simp); rw [hrec] at this; exact this, hdone _ H _ (Nat.le_refl _) (hIs _ _ _ _ hi (Sm.putObj _ hl rfl (by omega))) ((World.putObj_heap_other (by omega)).trans hk)⟩
end Go.Proofs.YtalkkjhehndaoaaGreat
namespace Go.Proofs.YtalkkjhehndaoaaGreat
open Go.RowKit
set_option linter.unusedVariables false
section
variable {P : Program} {md : Region.Mode} {ops : Array Oper} {Q : Exit → Act → World → Prop} {S : World → Prop}
theorem tq (i : Nat) {o1 o2 o3 o4 o5 o6} {v : Value} {fuel : Nat} {listed : Array Bool} {a a' : Act} {w : World} (hS : S w)
 (h : wpAnyH P md ops Q S fuel (listed.setIfInBounds i true) a' w)
 (hi : ops[i]? = some (Oper.mk o1 o2 o3 o4 o5 o6) := by rfl)
 (hc : (Region.noSelect ops && (Region.free md ops listed i && (Region.ready md ops listed).contains i)) = true := by kernel_rfl)
 (hQ : ∀ c a w, Q (.panic c) (a.put (Oper.mk o1 o2 o3 o4 o5 o6).dst v) w → Q (.panic c) a w := by exact fun _ _ _ h => h)
 (hw : Region.wanted (Oper.mk o1 o2 o3 o4 o5 o6) (yielded ops a.tmps) = true := by rfl)
 (hv : ∀ w, S w → (execOp a.eval (Oper.mk o1 o2 o3 o4 o5 o6)).run P w = .ok (.value v) w := by (intro w s; (try dsimp only at s); go_simp; (try with_reducible rfl)))
 (he : a.put (Oper.mk o1 o2 o3 o4 o5 o6).dst v = a' := by ((try simp only [Act.put, List.setIfInBounds_toArray, List.set_cons_zero, List.set_cons_succ]); (try with_reducible rfl))) :
 wpAnyH P md ops Q S (fuel + 1) listed a w := by
 subst he
 simp only [Bool.and_eq_true] at hc
 exact wpAnyH_take hi hc.1 hc.2.1 hc.2.2 hQ (.inl ⟨hw, hv⟩) hS h
theorem tn (i : Nat) {o1 o2 o3 o4 o5 o6} {fuel : Nat} {listed : Array Bool} {a a' : Act} {w : World} (hS : S w)
 (h : wpAnyH P md ops Q S fuel (listed.setIfInBounds i true) a' w)
 (hi : ops[i]? = some (Oper.mk o1 o2 o3 o4 o5 o6) := by rfl)
 (hc : (Region.noSelect ops && (Region.free md ops listed i && (Region.ready md ops listed).contains i)) = true := by kernel_rfl)
 (hQ : ∀ c a w, Q (.panic c) (a.put (Oper.mk o1 o2 o3 o4 o5 o6).dst undef) w → Q (.panic c) a w := by exact fun _ _ _ h => h)
 (hw : Region.wanted (Oper.mk o1 o2 o3 o4 o5 o6) (yielded ops a.tmps) = false := by rfl)
 (he : a.put (Oper.mk o1 o2 o3 o4 o5 o6).dst undef = a' := by ((try simp only [Act.put, List.setIfInBounds_toArray, List.set_cons_zero, List.set_cons_succ]); (try with_reducible rfl))) :
 wpAnyH P md ops Q S (fuel + 1) listed a w := by
 subst he
 simp only [Bool.and_eq_true] at hc
 exact wpAnyH_take hi hc.1 hc.2.1 hc.2.2 hQ (.inr ⟨hw, rfl⟩) hS h
end
section
variable {P : Program} {md : Region.Mode} {ops : Array Oper} {Q : Exit → Act → World → Prop} {S : World → Prop}
theorem tc (i : Nat) {o1 o2 o3 o4 o5 o6} {fuel : Nat} {listed : Array Bool} {a : Act} {w : World}
 (h : ∀ K' : Act → World → Prop, Shut (∀ a w, S w → (S w → wpAnyH P md ops Q S fuel (listed.setIfInBounds i true) a w) → K' a w) → if Region.wanted (Oper.mk o1 o2 o3 o4 o5 o6) (yielded ops a.tmps) = true then Oper.wp P (Oper.mk o1 o2 o3 o4 o5 o6) a w K' Q else K' (a.put (Oper.mk o1 o2 o3 o4 o5 o6).dst undef) w)
 (hr : Region.ready md ops listed = [i] := by kernel_rfl)
 (hi : ops[i]? = some (Oper.mk o1 o2 o3 o4 o5 o6) := by rfl) :
 wpAnyH P md ops Q S (fuel + 1) listed a w := wpAnyH_ready hr (by simp) (AllReadyH.cons hi h AllReadyH.nil)
theorem tr {K : Act → World → Prop} {fuel : Nat} {listed : Array Bool} (hK : Shut (∀ a w, S w → (S w → wpAnyH P md ops Q S fuel listed a w) → K a w)) {a a' : Act} {w : World}
 (h : S w → wpAnyH P md ops Q S fuel listed a' w)
 (hS : S w := by ((try dsimp only); (first | (go_simp; done) | (go_keep; done))))
 (he : a = a' := by ((try simp only [Act.put, List.setIfInBounds_toArray, List.set_cons_zero, List.set_cons_succ]); (try with_reducible rfl))) : K a w := by
 subst he
 exact hK.out _ _ hS h
end
end Go.Proofs.YtalkkjhehndaoaaGreat
namespace Go.Proofs.YtalkkjhehndaoaaGreat
open Go.RowKit
set_option linter.unusedVariables false
section
variable {P : Program} {md : Region.Mode} {ops : Array Oper} {Q : Exit → Act → World → Prop} {S : World → Prop}
theorem td (i j : Nat) {o1 o2 o3 o4 o5 o6 p1 p2 p3 p4 p5 p6} {v u : Value} {fuel : Nat} {listed : Array Bool} {a a' : Act} {w w1 : World} (hS : S w)
 (h : S w1 → wpAnyH P md ops Q S fuel ((listed.setIfInBounds i true).setIfInBounds j true) a' w1)
 (hr : (Region.ready md ops listed = [i, j] ∧ Region.ready md ops (listed.setIfInBounds i true) = [j] ∧ Region.ready md ops (listed.setIfInBounds j true) = [i]) := by exact ⟨by kernel_rfl, by kernel_rfl, by kernel_rfl⟩)
 (hi : ops[i]? = some (Oper.mk o1 o2 o3 o4 o5 o6) := by rfl) (hj : ops[j]? = some (Oper.mk p1 p2 p3 p4 p5 p6) := by rfl)
 (hc : (Region.noSelect ops && ((Oper.mk o1 o2 o3 o4 o5 o6).apart ops (Oper.mk p1 p2 p3 p4 p5 p6) && (i != j))) = true := by kernel_rfl)
 (wi : Region.wanted (Oper.mk o1 o2 o3 o4 o5 o6) (yielded ops a.tmps) = true := by rfl) (wj : Region.wanted (Oper.mk p1 p2 p3 p4 p5 p6) (yielded ops a.tmps) = true := by rfl)
 (vi : (execOp a.eval (Oper.mk o1 o2 o3 o4 o5 o6)).run P w = .ok (.value v) w := by (go_simp; (try with_reducible rfl)))
 (vj : (execOp a.eval (Oper.mk p1 p2 p3 p4 p5 p6)).run P w = .ok (.value u) w1 := by (go_simp; (first | done | exact ⟨rfl, rfl⟩ | with_reducible rfl)))
 (vi1 : (execOp a.eval (Oper.mk o1 o2 o3 o4 o5 o6)).run P w1 = .ok (.value v) w1 := by (go_simp; (try with_reducible rfl)))
 (hS1 : S w1 := by ((try dsimp only); (first | (go_simp; done) | (go_keep; done))))
 (he : (a.put (Oper.mk o1 o2 o3 o4 o5 o6).dst v).put (Oper.mk p1 p2 p3 p4 p5 p6).dst u = a' := by ((try simp only [Act.put, List.setIfInBounds_toArray, List.set_cons_zero, List.set_cons_succ]); (try with_reducible rfl))) :
 wpAnyH P md ops Q S (fuel + 2) listed a w := by
 subst he
 simp only [Bool.and_eq_true] at hc
 obtain ⟨h1, h2, h3⟩ := Oper.apart_spec hc.2.1
 have hne : i ≠ j := by simpa using hc.2.2
 have hsel := Region.noSelect_spec hc.1
 obtain ⟨r0, r1, r2⟩ := hr
 refine ⟨fun e => (by rw [r0] at e; cases e), fun x hx => ?_⟩
 rw [r0] at hx
 rcases List.mem_cons.1 hx with rfl | hx
 · unfold wpOp
   rw [hi]
   simp only [wi, if_true]
   refine .inl ?_
   simp only [Oper.wp, vi, Oper.upon]
   refine ⟨hS, ⟨fun e => (by rw [r1] at e; cases e), fun y hy => ?_⟩⟩
   rw [r1] at hy
   obtain rfl := List.mem_singleton.1 hy
   unfold wpOp
   rw [hj]
   simp only [wanted_put _ a _ v h1, wj, if_true]
   refine .inl ?_
   rw [Oper.wp, execOp_put _ (fun cs b => hsel _ _ cs b hj) a _ v h1, vj]
   exact ⟨hS1, h hS1⟩
 · obtain rfl := List.mem_singleton.1 hx
   unfold wpOp
   rw [hj]
   simp only [wj, if_true]
   refine .inl ?_
   simp only [Oper.wp, vj, Oper.upon]
   refine ⟨hS1, ⟨fun e => (by rw [r2] at e; cases e), fun y hy => ?_⟩⟩
   rw [r2] at hy
   obtain rfl := List.mem_singleton.1 hy
   unfold wpOp
   rw [hi]
   simp only [wanted_put _ a _ u h3, wi, if_true]
   refine .inl ?_
   rw [Oper.wp, execOp_put _ (fun cs b => hsel _ _ cs b hi) a _ u h3, vi1]
   refine ⟨hS1, ?_⟩
   have := h hS1
   rw [Array.setIfInBounds_comm _ _ hne, Act.put_comm a v u h2] at this
   exact this
end
end Go.Proofs.YtalkkjhehndaoaaGreat
namespace Go.Proofs.YtalkkjhehndaoaaGreat
theorem mul_bd {a b A B : Int} (ha : -A ≤ a ∧ a ≤ A) (hb : -B ≤ b ∧ b ≤ B) : -(A * B) ≤ a * b ∧ a * b ≤ A * B := by
 have h1 := Int.mul_nonneg (show 0 ≤ A - a by omega) (show 0 ≤ B + b by omega)
 have h2 := Int.mul_nonneg (show 0 ≤ A + a by omega) (show 0 ≤ B - b by omega)
 have h3 := Int.mul_nonneg (show 0 ≤ A - a by omega) (show 0 ≤ B - b by omega)
 have h4 := Int.mul_nonneg (show 0 ≤ A + a by omega) (show 0 ≤ B + b by omega)
 simp only [Int.mul_add, Int.add_mul, Int.sub_mul, Int.mul_sub] at h1 h2 h3 h4
 omega
def clampZ (l n : Int) : Int := if n < -l then -l else if l < n then l else n
theorem clampZ_bd {l : Int} (n : Int) (h : 0 ≤ l) : -l ≤ clampZ l n ∧ clampZ l n ≤ l := by
 unfold clampZ; split
 · omega
 · split <;> omega
theorem clampZ_id {l n : Int} (h1 : -l ≤ n) (h2 : n ≤ l) : clampZ l n = n := by
 unfold clampZ; rw [if_neg (by omega), if_neg (by omega)]
def FM : Int := 1000000000
def fc (n : Int) : Int := clampZ 1000000000 n
theorem fc_bd (n : Int) : -1000000000 ≤ fc n ∧ fc n ≤ 1000000000 := clampZ_bd n (by decide)
theorem fc_id {n : Int} (h1 : -1000000000 ≤ n) (h2 : n ≤ 1000000000) : fc n = n := clampZ_id h1 h2
theorem fc_fc (n : Int) : fc (fc n) = fc n := fc_id (fc_bd n).1 (fc_bd n).2
def fmul (a b : Int) : Int := fc ((fc a * fc b).tdiv 256)
def fdiv (a b : Int) : Int := if fc b = 0 then fc (fc a * 1000000000) else fc ((fc a * 256).tdiv (fc b))
def IsRoot (n r : Int) : Prop := 0 ≤ r ∧ r * r ≤ n ∧ n < (r + 1) * (r + 1)
theorem sq_mono {a b : Int} (h0 : 0 ≤ a) (h : a ≤ b) : a * a ≤ b * b := Int.mul_le_mul h h h0 (by omega)
theorem IsRoot.uniq {n r s : Int} (h : IsRoot n r) (k : IsRoot n s) : r = s := by
 obtain ⟨a0, a1, a2⟩ := h
 obtain ⟨b0, b1, b2⟩ := k
 rcases Int.lt_trichotomy r s with h | h | h
 · have := sq_mono (show 0 ≤ r + 1 by omega) (show r + 1 ≤ s by omega); omega
 · exact h
 · have := sq_mono (show 0 ≤ s + 1 by omega) (show s + 1 ≤ r by omega); omega
def rootN : Nat → Nat
 | 0 => 0
 | n + 1 => if (rootN n + 1) * (rootN n + 1) ≤ n + 1 then rootN n + 1 else rootN n
theorem rootN_is (n : Nat) : rootN n * rootN n ≤ n ∧ n < (rootN n + 1) * (rootN n + 1) := by
 induction n with
 | zero => simp [rootN]
 | succ n ih =>
  obtain ⟨h1, h2⟩ := ih
  unfold rootN
  split
  · refine ⟨by assumption, ?_⟩
    simp only [Nat.mul_add, Nat.add_mul] at *
    omega
  · exact ⟨by omega, by omega⟩
def rootZ (n : Int) : Int := if n < 0 then 0 else (rootN n.toNat : Int)
theorem rootZ_neg {n : Int} (h : n < 0) : rootZ n = 0 := by unfold rootZ; rw [if_pos h]
theorem rootZ_is {n : Int} (h : 0 ≤ n) : IsRoot n (rootZ n) := by
 have e : rootZ n = (rootN n.toNat : Int) := by unfold rootZ; rw [if_neg (by omega)]
 obtain ⟨h1, h2⟩ := rootN_is n.toNat
 have k1 : ((rootN n.toNat * rootN n.toNat : Nat) : Int) ≤ (n.toNat : Int) := by exact_mod_cast h1
 have k2 : (n.toNat : Int) < (((rootN n.toNat + 1) * (rootN n.toNat + 1) : Nat) : Int) := by exact_mod_cast h2
 rw [Int.natCast_mul] at k1 k2
 rw [Int.natCast_add, Int.toNat_of_nonneg h] at k2
 rw [Int.toNat_of_nonneg h] at k1
 rw [e]
 exact ⟨Int.natCast_nonneg _, k1, k2⟩
theorem rootZ_of {n r : Int} (h : IsRoot n r) : rootZ n = r := by
 have h0 : 0 ≤ n := by obtain ⟨a, b, _⟩ := h; have := Int.mul_nonneg a a; omega
 exact IsRoot.uniq (rootZ_is h0) h
theorem rootZ_nonneg (n : Int) : 0 ≤ rootZ n := by
 by_cases h : n < 0
 · rw [rootZ_neg h]; omega
 · exact (rootZ_is (by omega)).1
theorem rootZ_le {n B : Int} (hB : 0 ≤ B) (h : n < (B + 1) * (B + 1)) : rootZ n ≤ B := by
 by_cases h0 : n < 0
 · rw [rootZ_neg h0]; exact hB
 · obtain ⟨a, b, c⟩ := rootZ_is (show 0 ≤ n by omega)
   rcases Int.lt_or_le B (rootZ n) with k | k
   · have := sq_mono (show 0 ≤ B + 1 by omega) (show B + 1 ≤ rootZ n by omega); omega
   · exact k
theorem tdiv_bd {x B : Int} (m : Int) (h : -B ≤ x ∧ x ≤ B) : -B ≤ x.tdiv m ∧ x.tdiv m ≤ B := by
 have := Int.natAbs_tdiv_le_natAbs x m; omega
def absZ (n : Int) : Int := if n < 0 then -n else n
def fsqrt (n : Int) : Int := rootZ (fc n * 256)
end Go.Proofs.YtalkkjhehndaoaaGreat
namespace Go.Proofs.YtalkkjhehndaoaaGreat
open Go.RowKit
theorem held_any (n l : Int) (w : World) (h0 : 0 ≤ l) (h1 : l ≤ 4000000000) :
 Calls Tryz.prog 140 #[.int .i64 n, .int .i64 l] w fun e w' => e = .returned (.int .i64 (clampZ l n)) ∧ w' = w := by
 go_enter Tryz.func140, Tryz.ntmps140
 go_wp2
 all_goals
  go_ret
  refine ⟨ret_int ?_, rfl⟩
  unfold clampZ
  repeat' split
  all_goals (repeat' split at *) <;> omega
theorem sFixClamp_any (n : Int) (w : World) :
 Calls Tryz.prog 106 #[.int .i64 n] w fun e w' => e = .returned (.int .i64 (fc n)) ∧ w' = w := by
 go_enter Tryz.func106, Tryz.ntmps106
 go_wp2
 all_goals
  go_ret
  refine ⟨ret_int ?_, rfl⟩
  unfold fc clampZ
  repeat' split
  all_goals omega
end Go.Proofs.YtalkkjhehndaoaaGreat
namespace Go.Proofs.YtalkkjhehndaoaaGreat
open Go.RowKit
set_option linter.unusedVariables false
theorem lt_of_sq {a b : Int} (hb : 0 ≤ b) (h : a * a < b * b) : a < b := by
 rcases Int.lt_or_le a b with k | k
 · exact k
 · have := sq_mono hb k; omega
theorem le_of_sq {a b : Int} (hb : 0 ≤ b) (h : a * a < (b + 1) * (b + 1)) : a ≤ b := by
 have := lt_of_sq (show 0 ≤ b + 1 by omega) h; omega
theorem mid {l h : Int} (a : 0 ≤ l) (b : l + 1 < h) : l < (l + h) / 2 ∧ (l + h) / 2 < h := by omega
theorem l1Root_any (n : Int) (w : World) (h0 : 0 ≤ n) (h1 : n ≤ 2000000000000000000) :
 Calls Tryz.prog 107 #[.int .i64 n] w fun e w' => e = .returned (.int .i64 (rootZ n)) ∧ w' = w := by
 go_enter Tryz.func107, Tryz.ntmps107
 go_wp2
 go_loop [4] (fun t => ∃ h : Int, 1 ≤ h ∧ h ≤ 2828427126 ∧ t = .int .i64 h) (fun t => (2828427126 - intOf t).toNat)
 case atStart => exact ⟨1, by omega, by omega, rfl⟩
 case round =>
  obtain ⟨h, a1, a2, rfl⟩ := hrel
  have hb := mul_bd (a := h) (b := h) (A := 2828427126) (B := 2828427126) (by omega) (by omega)
  obtain ⟨hb1, hb2⟩ := hb
  by_cases hc : h * h ≤ n
  · have hle : h ≤ 1414213563 := le_of_sq (by omega) (by omega)
    go_wp2
    go_round
    case rel => exact ⟨2 * h, by omega, by omega, rfl⟩
    case measure => simp [intOf]; omega
  · go_wp2
    go_loop [3, 4] (fun s t => ∃ l h : Int, 0 ≤ l ∧ l < h ∧ h ≤ 2828427126 ∧ l * l ≤ n ∧ n < h * h ∧ s = .int .i64 l ∧ t = .int .i64 h) (fun s t => (intOf t - intOf s).toNat)
    case atStart => exact ⟨0, h, by omega, by omega, by omega, by omega, by omega, rfl, rfl⟩
    case round =>
     obtain ⟨l, h, b0, b1, b2, b3, b4, rfl, rfl⟩ := hrel
     by_cases hd : 1 < h - l
     · have hm := mid b0 (show l + 1 < h by omega)
       have hb := mul_bd (a := (l + h) / 2) (b := (l + h) / 2) (A := 2828427126) (B := 2828427126) (by omega) (by omega)
       obtain ⟨hb1, hb2⟩ := hb
       obtain ⟨hm1, hm2⟩ := hm
       by_cases he : (l + h) / 2 * ((l + h) / 2) ≤ n
       · go_wp2
         go_round
         case rel => exact ⟨_, h, by omega, hm2, by omega, he, by omega, rfl, rfl⟩
         case measure => simp [intOf]; omega
       · go_wp2
         go_round
         case rel => exact ⟨l, _, by omega, hm1, by omega, b3, by omega, rfl, rfl⟩
         case measure => simp [intOf]; omega
     · have e : h = l + 1 := by omega
       go_wp2
       go_ret
       exact ⟨ret_int (rootZ_of ⟨b0, b3, by rw [← e]; exact b4⟩).symm, rfl⟩
def cellInt (w : World) (a : Addr) : Int := match w.cell? a with | some v => intOf v | none => 0
theorem cellInt_of {w : World} {a : Addr} {k : IntKind} {n : Int} (h : w.cell? a = some (.int k n)) : cellInt w a = n := by simp [cellInt, h, intOf]
theorem narrow_any (B : Nat) (n l h : Int) (w : World) (hl : w.cell? ⟨B + 1, 0, none⟩ = some (.int .i64 l)) (hh : w.cell? ⟨B + 2, 0, none⟩ = some (.int .i64 h)) (hn : w.cell? ⟨B, 0, none⟩ = some (.int .i64 n))
 (fl : w.frozen? ⟨B + 1, 0, none⟩ = false) (fh : w.frozen? ⟨B + 2, 0, none⟩ = false) (a0 : 0 ≤ l) (a1 : l + 1 < h) (a2 : h ≤ 2147483648) :
 Calls Tryz.prog 142 #[.pointer (some ⟨B + 1, 0, none⟩), .pointer (some ⟨B + 2, 0, none⟩), .pointer (some ⟨B, 0, none⟩)] w fun e w' => ∃ l' h' : Int,
  e = .returned (.bool (decide (1 < h' - l'))) ∧ 0 ≤ l' ∧ l' < h' ∧ h' ≤ 2147483648 ∧ h' - l' < h - l ∧ (l' = l ∨ l' * l' ≤ n) ∧ (h' = h ∨ n < h' * h') ∧
  w'.cell? ⟨B + 1, 0, none⟩ = some (.int .i64 l') ∧ w'.cell? ⟨B + 2, 0, none⟩ = some (.int .i64 h') ∧ w'.cell? ⟨B, 0, none⟩ = some (.int .i64 n) ∧
  w'.frozen? ⟨B + 1, 0, none⟩ = false ∧ w'.frozen? ⟨B + 2, 0, none⟩ = false ∧ Below B w w' := by
 have hm := mid a0 a1
 have hb := mul_bd (a := (l + h) / 2) (b := (l + h) / 2) (A := 2147483648) (B := 2147483648) (by omega) (by omega)
 obtain ⟨hb1, hb2⟩ := hb
 obtain ⟨hm1, hm2⟩ := hm
 by_cases he : (l + h) / 2 * ((l + h) / 2) ≤ n
 · go_enter Tryz.func142, Tryz.ntmps142
   go_wp2
   go_ret
   exact ⟨(l + h) / 2, h, rfl, by omega, by omega, by omega, by omega, .inr he, .inl rfl, cset_same hl, by rw [cset_far (by simp)]; exact hh,
    by rw [cset_far (by simp)]; exact hn, by simpa using fl, by simpa using fh, (Below.refl _ _).setCell (by simp) _⟩
 · go_enter Tryz.func142, Tryz.ntmps142
   go_wp2
   go_ret
   exact ⟨l, (l + h) / 2, rfl, by omega, by omega, by omega, by omega, .inl rfl, .inr (by omega), by rw [cset_far (by simp)]; exact hl, cset_same hh,
    by rw [cset_far (by simp)]; exact hn, by simpa using fl, by simpa using fh, (Below.refl _ _).setCell (by simp) _⟩
theorem root_any (n : Int) (w : World) (h1 : n ≤ 2000000000000000000) :
 Calls Tryz.prog 139 #[.int .i64 n] w fun e w' => e = .returned (.int .i64 (rootZ n)) ∧ Below w.heap.size w w' := by
 go_enter Tryz.func139, Tryz.ntmps139
 go_wp2
 go_loopw [] (fun wr => ∃ l h : Int, 0 ≤ l ∧ l + 1 < h ∧ h ≤ 2147483648 ∧ (l = 0 ∨ l * l ≤ n) ∧ n < h * h ∧
  wr.cell? ⟨w.heap.size + 1, 0, none⟩ = some (.int .i64 l) ∧ wr.cell? ⟨w.heap.size + 2, 0, none⟩ = some (.int .i64 h) ∧ wr.cell? ⟨w.heap.size, 0, none⟩ = some (.int .i64 n) ∧
  wr.frozen? ⟨w.heap.size + 1, 0, none⟩ = false ∧ wr.frozen? ⟨w.heap.size + 2, 0, none⟩ = false ∧ Below w.heap.size w wr)
  (fun wr => (cellInt wr ⟨w.heap.size + 2, 0, none⟩ - cellInt wr ⟨w.heap.size + 1, 0, none⟩).toNat)
 case atStart =>
  refine ⟨0, 2147483648, by omega, by omega, by omega, .inl rfl, by omega, ?_, ?_, ?_, ?_, ?_, ?_⟩
  iterate 5 go_simp
  exact (((Below.refl _ _).alloc (Nat.le_refl _) _).alloc (by simp) _).alloc (by simp; omega) _
 case round =>
  obtain ⟨l, h, a0, a1, a2, a3, a4, c1, c2, c0, f1, f2, hbel⟩ := hrel
  go_wp2_with (go_at_call 142; refine (narrow_any _ _ _ _ _ c1 c2 c0 f1 f2 a0 a1 a2).mono ?_; rintro e w1 ⟨l', h', rfl, b0, b1, b2, b3, b4, b5, d1, d2, d0, g1, g2, hb1⟩)
  · go_roundw
    case rel => exact ⟨l', h', by omega, by omega, by omega, by rcases b4 with rfl | k; exact a3; exact .inr k, by rcases b5 with rfl | k; exact a4; exact k, d1, d2, d0, g1, g2, hbel.trans hb1⟩
    case measure => simp only [cellInt_of c1, cellInt_of c2, cellInt_of d1, cellInt_of d2]; omega
  · go_ret
    refine ⟨ret_int ?_, hbel.trans hb1⟩
    have e : h' = l' + 1 := by omega
    have q4 : n < (l' + 1) * (l' + 1) := by rw [← e]; rcases b5 with rfl | k; exact a4; exact k
    have q3 : l' = 0 ∨ l' * l' ≤ n := by rcases b4 with rfl | k; exact a3; exact .inr k
    rcases q3 with rfl | q3
    · by_cases hn : n < 0
      · rw [rootZ_neg hn]
      · exact (rootZ_of ⟨by omega, by omega, q4⟩).symm
    · exact (rootZ_of ⟨b0, q3, q4⟩).symm
end Go.Proofs.YtalkkjhehndaoaaGreat
