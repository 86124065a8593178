/- A range over a function value with a bound receiver: the laws, whatever the program; and drawn regions within a round. The reader of drawn bytes: its invariant and the contracts of its methods. -/
import Derived.Test.YtcbgcochpflblaaB1
import Derived.RangeFuncNested
import Derived.OrdersIn
import Derived.TacticsIn
import Derived.Deep.RegionHeld3
import Derived.Deep.QuietTactic
import Derived.BigQuiet
import Derived.OpenShut
namespace Go.Proofs.Ytcbgcochpflblaa
open Go.RowKit
set_option linter.unusedVariables false
section
variable {P : Program} {Q : Exit → Act → World → Prop}
/-- an operation in a round, by what it does anywhere -/
theorem rows_wide {n : Nat} {row : String} {args : Array Value} {w : World} {R : Value → World → Prop} (h : Rows P row args w R) : RowsIn Fence.wide n P row args w R :=
  fun c cs _ => let ⟨v, w', r, s⟩ := h c cs; ⟨v, w', r, stepsIn_wide.2 s⟩
theorem opIn_of {l n : Nat} {o : Oper} (hd : ∀ c, o.op ≠ .defer c) {a : Act} {w : World} {K : Act → World → Prop} (h : o.wp P a w K Q) : o.wpIn (Fence.wide.inRound l) n P a w K Q := by
  unfold Oper.wp at h
  unfold Oper.wpIn
  refine ⟨fun _ _ => trivial, ?_⟩
  rw [Oper.semAt_eq _ _ _ hd]
  generalize (execOp a.eval o).run P w = r at *
  cases r with
  | ok x w' =>
    cases x <;> simp only [Oper.upon, Oper.uponIn] at h ⊢ <;>
      first
        | exact h
        | exact ⟨(fun e => by cases e), CallsIn.inRound l (callsIn_wide.2 h)⟩
        | exact ⟨(fun e => by cases e), rows_wide h⟩
  | halt x w' => cases x <;> simp only [Oper.upon, Oper.uponIn] at h ⊢ <;> exact h
def noDefer (ops : Array Oper) : Bool := ops.toList.all fun o => match o.op with | .defer _ => false | _ => true
theorem noDefer_at {ops : Array Oper} (h : noDefer ops = true) {i : Nat} {o : Oper} (hi : ops[i]? = some o) : ∀ c, o.op ≠ .defer c := by
  intro c e
  have hm : o ∈ ops.toList := List.mem_of_getElem? (by simpa using hi)
  have := List.all_eq_true.1 h o hm
  rw [e] at this
  cases this
theorem wpListIn_of {l n : Nat} {ops : Array Oper} (hL : ¬ LetsOut Q) : ∀ (os : List Oper) (hn : noDefer os.toArray = true) (a : Act) (w : World), wpList P ops Q os a w → wpListIn (Fence.wide.inRound l) n P ops Q os a w
  | [], _, _, _, h => h
  | o :: rest, hn, a, w, h => by
    unfold wpList at h
    unfold wpListIn
    have hn' : noDefer rest.toArray = true := by simp [noDefer] at hn ⊢; exact hn.2
    split
    · rename_i hw
      rw [if_pos hw] at h
      refine opIn_of (noDefer_at hn (i := 0) (by simp)) (Oper.wp_mono (fun a' w' h' => wpListIn_of hL rest hn' a' w' h') (h.resolve_right fun q => hL q.2))
    · rename_i hw
      rw [if_neg hw] at h
      exact ⟨fun _ _ => trivial, wpListIn_of hL rest hn' _ _ h⟩
/-- a region within a round that does not draw -/
theorem wpIn_region_plain {l n : Nat} {ops : Array Oper} {id : Nat} {a : Act} {w : World} (hL : ¬ LetsOut Q) (hn : noDefer ops = true) (h : wpList P ops Q ops.toList a w) : (Code.region id ops false).wpIn (Fence.wide.inRound l) n P Q a w :=
  wpIn_region_list (wpListIn_of hL _ (by simpa using hn) _ _ h)
end
/-- what book-keeping leaves: blocks below B as they were, and all cells -/
structure Sm (B : Nat) (W W' : World) : Prop where
  below : Below B W W'
  cells : ∀ (k : Nat) (o : Obj), W.heap[k]? = some o → o.isCells = true → W'.heap[k]? = some o
theorem Sm.refl (B : Nat) (W : World) : Sm B W W := ⟨Below.refl _ _, fun _ _ h _ => h⟩
theorem Sm.trans {B : Nat} {X Y Z : World} (h : Sm B X Y) (k : Sm B Y Z) : Sm B X Z := ⟨h.below.trans k.below, fun i o hi ho => k.cells i o (h.cells i o hi ho) ho⟩
theorem Sm.mono {B B' : Nat} {X Y : World} (h : Sm B X Y) (hB : B' ≤ B) : Sm B' X Y := ⟨h.below.mono hB, h.cells⟩
theorem Sm.of_below {B : Nat} {W W' : World} (h : Below W.heap.size W W') (hB : B ≤ W.heap.size) : Sm B W W' :=
  ⟨h.mono hB, fun k o hk _ => (h.block k (Array.getElem?_eq_some_iff.1 hk).1).trans hk⟩
theorem Sm.putObj {B l : Nat} {W : World} {o : Obj} (o' : Obj) (hl : W.heap[l]? = some o) (ho : o.isCells = false) (hB : B ≤ l) : Sm B W (W.putObj l o') :=
  ⟨⟨rfl, rfl, rfl, by simp, fun k hk => World.putObj_heap_other (by omega)⟩, fun k x hk hx => by
    refine (World.putObj_heap_other (fun e => ?_)).trans hk
    subst e
    rw [hl] at hk
    cases hk
    rw [ho] at hx
    cases hx⟩
theorem isCells_of_cell {W : World} {p : Addr} {v : Value} (h : W.cell? p = some v) : ∃ o : Obj, W.heap[p.block]? = some o ∧ o.isCells = true := by
  unfold World.cell? at h
  cases ho : W.heap[p.block]? with
  | none => simp [ho] at h
  | some o => cases o <;> simp [ho] at h <;> exact ⟨_, rfl, rfl⟩
theorem Sm.block {B : Nat} {W W' : World} (h : Sm B W W') {p : Addr} {v : Value} (hc : W.cell? p = some v) : W'.heap[p.block]? = W.heap[p.block]? := by
  obtain ⟨o, ho, hx⟩ := isCells_of_cell hc
  rw [ho]
  exact h.cells _ _ ho hx
theorem Sm.cell {B : Nat} {W W' : World} (h : Sm B W W') {p : Addr} {v : Value} (hc : W.cell? p = some v) : W'.cell? p = some v := (World.cell?_of_block (h.block hc)).trans hc
theorem Sm.frozen {B : Nat} {W W' : World} (h : Sm B W W') {p : Addr} {v : Value} (hc : W.cell? p = some v) {b : Bool} (hf : W.frozen? p = b) : W'.frozen? p = b := (World.frozen?_of_block (h.block hc)).trans hf
theorem Sm.size {B : Nat} {W W' : World} (h : Sm B W W') : W.heap.size ≤ W'.heap.size := h.below.size
theorem KeepsFrom.of_below {B : Nat} {W W' : World} (h : Below W.heap.size W W') : KeepsFrom B W W' :=
  ⟨h.size, fun k o _ hk _ => (h.block k (Array.getElem?_eq_some_iff.1 hk).1).trans hk⟩
/-- how a round may end -/
def rdPost (B : Nat) (I : World → Prop) (Ix : Code → World → Prop) (W : World) : Exit → Act → World → Prop
  | .normal, _, W' => KeepsFrom B W W' ∧ I W'
  | .ret, _, W' => KeepsFrom B W W' ∧ Ix .ret W'
  | .exit id, _, W' => KeepsFrom B W W' ∧ Ix (.exit id) W'
  | .goto t, _, W' => KeepsFrom B W W' ∧ Ix (.goto t) W'
  | .panic _, _, _ => False
  | .outgrown, _, _ => False
/-- what an iterator is asked: it calls yield at encs 0, encs 1, .. as long as the rounds go on -/
def ItC (P : Program) (gf : Nat) (bound : Array Value) (encs : Nat → Array Value) (nn : Nat) (w : World) : Prop :=
  ∀ (l : Nat) (J : Nat → World → Prop) (Jx : World → Prop) (W : World), Below w.heap.size w W →
    (∀ k A B, J k A → Below A.heap.size A B → J k B) → (∀ A B, Jx A → Below A.heap.size A B → Jx B) →
    (∀ k A, J k A → k < nn → YieldAt Fence.wide 0 P l (encs k) A fun e A' => (e = .returned (.bool true) ∧ J (k + 1) A') ∨ (e = .returned (.bool false) ∧ Jx A')) →
    J 0 W → CallsIn Fence.wide 0 P gf (bound ++ #[.func (.yield l) #[] #[]]) W fun e A => (∃ v, e = .returned v) ∧ (J nn A ∨ Jx A)
/-- a function with such a statement: its contract -/
theorem calls_of_wp_marks {P : Program} {f : FuncId} {fn : Func} {c : Code} {args : Array Value} {w : World} {R : Ending → World → Prop} (hf : P.funcs[f]? = some fn) (hb : fn.body = some c)
    (h : c.wp P (bodyPostM Fence.wide 0 P fn R) { tmps := args ++ Array.replicate (fn.ntmps - args.size) undef, defers := [] } w) : Calls P f args w R :=
  callsIn_wide.1 (callsIn_of_wp_marks (n := 0) hf hb trivial (wpIn_wide.2 h))
/-- at its return -/
theorem marks_ret {P : Program} {fn : Func} {R : Ending → World → Prop} {a : Act} {w : World} {B D : Nat} (hB : B ≤ D) (hd : a.defers = [{ target := .collected D, args := #[] }]) (hK : w.heap[D]? = some (.deferred (some [])))
    (h : ∀ W', Sm B w W' → ∃ v, (results fn a.tmps).run P W' = .ok v W' ∧ R (.returned v) W') : bodyPostM Fence.wide 0 P fn R .ret a w := by
  show LeavesInM Fence.wide 0 P fn a.tmps R a.defers .returning w
  rw [hd]
  exact ⟨by simp, .inl ⟨_, _, rfl, run_takeDeferred hK, h _ (Sm.putObj _ hK rfl hB)⟩⟩
end Go.Proofs.Ytcbgcochpflblaa
namespace Go.Proofs.Ytcbgcochpflblaa
open Go.RowKit
set_option linter.unusedVariables false

/-- The reader at block rb: a slice of at most 2000 bytes that lie elsewhere, and its place p. -/
def Rd (w : World) (rb p : Nat) : Prop := ∃ (a : Option Addr) (len cap : Nat), w.cell? ⟨rb, 0, none⟩ = some (.slice a len cap) ∧ w.cell? ⟨rb, 1, none⟩ = some (.int .i64 (p : Int)) ∧ w.frozen? ⟨rb, 1, none⟩ = false ∧ len ≤ 2000 ∧
  (len = 0 ∨ ∃ b off, a = some ⟨b, off, none⟩ ∧ b < rb ∧ ∀ i, i < len → ∃ z : Int, w.cell? ⟨b, off + i, none⟩ = some (.int .u8 z) ∧ 0 ≤ z ∧ z ≤ 255)

theorem Rd.lt {w : World} {rb p : Nat} (h : Rd w rb p) : rb < w.heap.size := by
  obtain ⟨a, len, cap, c0, _⟩ := h; exact cell_lt c0
theorem Rd.below {w w' : World} {rb p : Nat} (h : Rd w rb p) (k : Below w.heap.size w w') : Rd w' rb p := by
  have hl := h.lt
  obtain ⟨a, len, cap, c0, c1, f1, hle, hz⟩ := h
  refine ⟨a, len, cap, by rw [k.cell hl]; exact c0, by rw [k.cell hl]; exact c1, by rw [k.frozen hl]; exact f1, hle, ?_⟩
  rcases hz with hz | ⟨b, off, ha, hb, hz⟩
  · exact .inl hz
  · refine .inr ⟨b, off, ha, hb, fun i hi => ?_⟩
    obtain ⟨z, hz, r⟩ := hz i hi
    exact ⟨z, by rw [k.cell (cell_lt hz)]; exact hz, r⟩
theorem Rd.step {w : World} {rb p : Nat} (h : Rd w rb p) (m : Nat) (q : Nat) : Rd ((w.setCell ⟨rb, 1, none⟩ (.int .i64 (q : Int))).drewN m) rb q := by
  obtain ⟨a, len, cap, c0, c1, f1, hle, hz⟩ := h
  refine ⟨a, len, cap, ?_, ?_, ?_, hle, ?_⟩
  · rw [World.cell?_drewN, cset_other (by simp)]; exact c0
  · rw [World.cell?_drewN, cset_same c1]
  · simpa using f1
  rcases hz with hz | ⟨b, off, ha, hb, hz⟩
  · exact .inl hz
  · refine .inr ⟨b, off, ha, hb, fun i hi => ?_⟩
    obtain ⟨z, hz, r⟩ := hz i hi
    exact ⟨z, by rw [World.cell?_drewN, cset_far (Nat.ne_of_lt hb)]; exact hz, r⟩

theorem Rd.alloc {w : World} {rb p : Nat} (h : Rd w rb p) (o : Obj) : Rd (w.alloc o) rb p := h.below ((Below.refl _ _).alloc (Nat.le_refl _) o)

/-- Each cell of a list is an integer between two bounds. -/
def AllBd (lo hi : Int) : List Value → Prop
  | [] => True
  | c :: r => (∃ z : Int, c = .int .i64 z ∧ lo ≤ z ∧ z ≤ hi) ∧ AllBd lo hi r
theorem AllBd.cons {lo hi z : Int} {r : List Value} (h1 : lo ≤ z) (h2 : z ≤ hi) (h : AllBd lo hi r) : AllBd lo hi (.int .i64 z :: r) := ⟨⟨z, rfl, h1, h2⟩, h⟩
theorem AllBd.nil {lo hi : Int} : AllBd lo hi [] := trivial

/-- The reader stands at p at most, and since the world w0 nothing but its block has turned. -/
def RB (w0 w : World) (rb p : Nat) : Prop := ∃ q, q ≤ p ∧ Rd w rb q ∧ But rb w0 w
theorem RB.mono {w0 w : World} {rb p p' : Nat} (h : RB w0 w rb p) (k : p ≤ p') : RB w0 w rb p' := by
  obtain ⟨q, a, b⟩ := h; exact ⟨q, by omega, b⟩
theorem RB.start {w : World} {rb p : Nat} (h : Rd w rb p) : RB w w rb p := ⟨p, Nat.le_refl _, h, But.refl _ _⟩
theorem RB.alloc {w0 w : World} {rb p : Nat} (h : RB w0 w rb p) (o : Obj) : RB w0 (w.alloc o) rb p := by
  obtain ⟨q, a, b, c⟩ := h; exact ⟨q, a, b.alloc o, c.alloc o⟩
theorem RB.below {w0 w w' : World} {rb p : Nat} (h : RB w0 w rb p) (k : Below w.heap.size w w') : RB w0 w' rb p := by
  obtain ⟨q, a, b, c⟩ := h; exact ⟨q, a, b.below k, c.trans (But.of_below k)⟩
theorem RB.lt {w0 w : World} {rb p : Nat} (h : RB w0 w rb p) : rb < w.heap.size := by
  obtain ⟨q, a, b, c⟩ := h; exact b.lt
theorem RB.old {w0 w : World} {rb p : Nat} (h : RB w0 w rb p) {B : Nat} (hB : B ≤ rb) (hB' : B ≤ w0.heap.size) : Below B w0 w := by
  obtain ⟨q, a, b, c⟩ := h; exact c.below hB hB'

/-- A slice of bytes that came in: within its room; empty, or its bytes lie there. -/
def Bytes (w : World) (a : Option Addr) (len cap : Nat) : Prop :=
  len ≤ cap ∧ (len = 0 ∨ ∃ b off, a = some ⟨b, off, none⟩ ∧ ∀ i, i < len → ∃ z : Int, w.cell? ⟨b, off + i, none⟩ = some (.int .u8 z) ∧ 0 ≤ z ∧ z ≤ 255)
theorem Bytes.below {w w' : World} {a : Option Addr} {len cap : Nat} (h : Bytes w a len cap) (k : Below w.heap.size w w') : Bytes w' a len cap := by
  refine ⟨h.1, ?_⟩
  rcases h.2 with h | ⟨b, off, ha, hz⟩
  · exact .inl h
  · refine .inr ⟨b, off, ha, fun i hi => ?_⟩
    obtain ⟨z, hz, r⟩ := hz i hi
    exact ⟨z, by rw [k.cell (cell_lt hz)]; exact hz, r⟩
theorem Bytes.nil (w : World) : Bytes w none 0 0 := ⟨Nat.le_refl _, .inl rfl⟩
theorem Bytes.of {w : World} {x : Addr} {len cap : Nat} {zs : List Int} (hl : len ≤ cap) (hz : zs.length = cap) (hcell : ∀ i, i < zs.length → w.cell? (x.add i) = some (.int .u8 (zs.getD i 0))) (hwz : ∀ n ∈ zs, (Lit.int .u8 n).wf = true) : Bytes w (some x) len cap := by
  refine ⟨hl, ?_⟩
  rcases Nat.eq_zero_or_pos len with h | h
  · exact .inl h
  · obtain ⟨b, off, spot⟩ := x
    have hc := hcell 0 (by omega)
    have hspot : spot = none := by simpa [Addr.add] using World.cell?_spot hc
    subst hspot
    refine .inr ⟨b, off, rfl, fun i hi => ⟨zs[i]?.getD 0, ?_, (range_u8 hwz i).1, (range_u8 hwz i).2⟩⟩
    have h := hcell i (by omega)
    by_cases h0 : i = 0
    · subst h0; simpa [Addr.add] using h
    · simpa [Addr.add, h0] using h

theorem RB.done {w w0 w' : World} {p : Nat} (k : Below w.heap.size w w0) (h : RB w0 w' w.heap.size p) : Below w.heap.size w w' :=
  k.trans (h.old (Nat.le_refl _) k.size)

theorem RB.cells {w0 w : World} {rb p : Nat} (h : RB w0 w rb p) : (∀ b o, b < w0.heap.size → b ≠ rb → w.cell? ⟨b, o, none⟩ = w0.cell? ⟨b, o, none⟩) ∧ (∀ b o, b < w0.heap.size → b ≠ rb → w.frozen? ⟨b, o, none⟩ = w0.frozen? ⟨b, o, none⟩) := by
  obtain ⟨q, k, b, c⟩ := h
  exact ⟨fun b o hb hn => c.cell (p := ⟨b, o, none⟩) hb hn, fun b o hb hn => c.frozen (p := ⟨b, o, none⟩) hb hn⟩
end Go.Proofs.Ytcbgcochpflblaa
