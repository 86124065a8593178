/- Texts of a proof. -/
import Derived.Test.YtmnhankcbkfhaaaGreatDoorB2
import Derived.RangeFuncBound
import Derived.Test.YtmnhankcbkfhaaaGreatDoorB3
import Derived.LoopNIn
import Derived.LoopIn
import Derived.OwnWalkIn
import Derived.Shelf.Abstract
import Derived.Deep.DeepCutAuto
import Derived.Deep.QuietTactic
import Derived.BigQuiet
import Derived.Deep.RegionWith
import Derived.Deep.RegionHeld3
set_option maxHeartbeats 16000000
set_option maxRecDepth 20000
namespace Go.Proofs.YtmnhankcbkfhaaaGreatDoor
open Go.RowKit
set_option linter.unusedVariables false
structure Kxs (B : Nat) (S : Nat → Prop) (A A' : World) : Prop where
 below : Below B A A'
 cells : ∀ (k : Nat) (o : Obj), A.heap[k]? = some o → o.isCells = true → ¬ S k → A'.heap[k]? = some o
structure Kcs (B : Nat) (S : Nat → Prop) (A A' : World) : Prop where
 others : KeepsFrom B A A'
 own : ∀ (k : Nat) (o : Obj), B ≤ k → S k → A.heap[k]? = some o → o.isCells = true → A'.heap[k]? = some o
def Gr (A : World) (S S' : Nat → Prop) : Prop := ∀ b, S' b → S b ∨ A.heap.size ≤ b
theorem Gr.refl (A : World) (S : Nat → Prop) : Gr A S S := fun _ h => .inl h
theorem Gr.old {A : World} {S S' : Nat → Prop} (h : Gr A S S') {b : Nat} (hb : b < A.heap.size) (hS : ¬ S b) : ¬ S' b := fun k => by
 rcases h b k with e | e
 · exact hS e
 · omega
theorem Gr.trans {X Y : World} {S S' S'' : Nat → Prop} (h : Gr X S S') (k : Gr Y S' S'') (hs : X.heap.size ≤ Y.heap.size) : Gr X S S'' := fun b e => by
 rcases k b e with z | z
 · exact h b z
 · exact .inr (by omega)
theorem Kxs.refl (B : Nat) (S : Nat → Prop) (A : World) : Kxs B S A A := ⟨Below.refl _ _, fun _ _ h _ _ => h⟩
theorem Kxs.size {B : Nat} {S : Nat → Prop} {X Y : World} (h : Kxs B S X Y) : X.heap.size ≤ Y.heap.size := h.below.size
theorem Kxs.trans {B : Nat} {S : Nat → Prop} {X Y Z : World} (h : Kxs B S X Y) (k : Kxs B S Y Z) : Kxs B S X Z := ⟨h.below.trans k.below, fun i o hi ho hS => k.cells i o (h.cells i o hi ho hS) ho hS⟩
theorem Kxs.grown {B : Nat} {S S' : Nat → Prop} {X Y Z : World} (h : Kxs B S X Y) (g : Gr X S S') (k : Kxs B S' Y Z) : Kxs B S X Z :=
 ⟨h.below.trans k.below, fun i o hi ho hS => k.cells i o (h.cells i o hi ho hS) ho (g.old (Array.getElem?_eq_some_iff.1 hi).1 hS)⟩
theorem Kxs.sm {B B' : Nat} {S : Nat → Prop} {X Y Z : World} (h : Kxs B S X Y) (k : Sm B' Y Z) (hB : B ≤ B') : Kxs B S X Z := ⟨h.below.trans (k.below.mono hB), fun i o hi ho hS => k.cells i o (h.cells i o hi ho hS) ho⟩
theorem Kxs.of_sm {B B' : Nat} {S : Nat → Prop} {X Y : World} (k : Sm B' X Y) (hB : B ≤ B') : Kxs B S X Y := (Kxs.refl B S X).sm k hB
theorem Kxs.fr {B : Nat} {S : Nat → Prop} {X Y Z : World} {T : Nat → Prop} (h : Kxs B S X Y) (k : Fr T Y Z) (hT : ∀ b, T b → B ≤ b ∧ (S b ∨ X.heap.size ≤ b)) (hB : B ≤ X.heap.size) : Kxs B S X Z :=
 ⟨h.below.trans (k.below (Nat.le_trans hB h.size) (fun b e => (hT b e).1)), fun i o hi ho hS => by
  have hl : i < X.heap.size := (Array.getElem?_eq_some_iff.1 hi).1
  exact (k.block i (Nat.lt_of_lt_of_le hl h.size) (fun e => by
   rcases (hT i e).2 with z | z
   · exact hS z
   · omega)).trans (h.cells i o hi ho hS)⟩
theorem Kxs.of_below {B : Nat} {S : Nat → Prop} {X Y : World} (k : Below X.heap.size X Y) (hB : B ≤ X.heap.size) : Kxs B S X Y :=
 ⟨k.mono hB, fun i o hi _ _ => (k.block i (Array.getElem?_eq_some_iff.1 hi).1).trans hi⟩
theorem Kcs.refl (B : Nat) (S : Nat → Prop) (A : World) : Kcs B S A A := ⟨KeepsFrom.refl _ _, fun _ _ _ _ h _ => h⟩
theorem Kcs.trans {B : Nat} {S : Nat → Prop} {X Y Z : World} (h : Kcs B S X Y) (k : Kcs B S Y Z) : Kcs B S X Z := ⟨h.others.trans k.others, fun i o a b c d => k.own i o a b (h.own i o a b c d) d⟩
theorem Kcs.fr {B : Nat} {S : Nat → Prop} {X Y : World} {T : Nat → Prop} (k : Fr T X Y) (hT : ∀ b, T b → b < B ∨ ¬ S b) : Kcs B S X Y :=
 ⟨k.keeps B, fun i o hB hS hi ho => (k.block i (Array.getElem?_eq_some_iff.1 hi).1 (fun e => by
  rcases hT i e with z | z
  · omega
  · exact z hS)).trans hi⟩
theorem Kcs.of_below {B : Nat} {S : Nat → Prop} {X Y : World} (k : Below X.heap.size X Y) : Kcs B S X Y := Kcs.fr (T := fun _ => False) (Fr.of_below k) (fun _ h => h.elim)
theorem Kcs.putObj {B l : Nat} {S : Nat → Prop} {X : World} (o : Obj) (h : l < B) : Kcs B S X (X.putObj l o) :=
 ⟨⟨by simp [World.putObj], fun k x hk hx _ => (World.putObj_heap_other (by omega)).trans hx⟩, fun k x hB _ hx _ => (World.putObj_heap_other (by omega)).trans hx⟩
theorem Kcs.cell {B : Nat} {S : Nat → Prop} {X Y : World} (h : Kcs B S X Y) {p : Addr} {v : Value} (hc : X.cell? p = some v) (h1 : B ≤ p.block) (h2 : S p.block) : Y.cell? p = some v := by
 obtain ⟨o, ho, hx⟩ := isCells_of_cell hc
 exact (World.cell?_of_block ((h.own _ _ h1 h2 ho hx).trans ho.symm)).trans hc
def ItGs (P : Program) (gf : Nat) (bound : Array Value) (Col : World → Prop) (E : (Nat → Prop) → Nat → Array Value → World → Prop) (nn : Nat) (w : World) : Prop :=
 ∀ (l : Nat) (J : (Nat → Prop) → Nat → World → Prop) (W : World), Below w.heap.size w W →
  (∀ H H' k A A', J H k A → Kxs W.heap.size H A A' → Gr A H H' → J H' k A') → (∀ H k A, J H k A → Col A) →
  (∀ H W0, Below W.heap.size W W0 → (∀ b, H b → W.heap.size ≤ b) → J H 0 W0) →
  (∀ H k A args, J H k A → k < nn → E H k args A → YieldAt Fence.wide 0 P l args A fun e A' => e = .returned (.bool true) ∧ J H (k + 1) A' ∧ Kcs W.heap.size H A A') →
  CallsIn Fence.wide 0 P gf (bound ++ #[.func (.yield l) #[] #[]]) W fun e A => (∃ v, e = .returned v) ∧ ∃ H, J H nn A
theorem yield_roundS {P : Program} {ps : Array Tmp} {assign body : Code} {a : Act} {B l dl : Nat} {fn : FuncId} {args : Array Value} (hps : args.size = ps.size)
 {I' : World → Prop} (hI' : ∀ A r o, I' A → A.heap[l]? = some (.loop r) → I' (A.putObj l (.loop o))) {Hh : World → Prop} (hH : ∀ A B', Hh A → KeepsFrom B A B' → Hh B') (hHp : ∀ A o, Hh A → Hh (A.putObj l o))
 {rec : LoopState → Option Code → Loop} (hrec : rec = fun st pe => { state := st, pending := pe, fn, tmps := a.tmps, params := ps, assign, body, defers := dl }) (hBl : B ≤ l)
 {W : World} (hl : W.heap[l]? = some (.loop (rec .ready none))) (hh : Hh W)
 (hround : assign.wpIn (Fence.wide.inRound l) 0 P (Exit.then (fun a₁ W₁ => KeepsFrom B W W₁ ∧ ∀ W₂, Sm B W₁ W₂ → (∀ (B' : Nat) (H' : Nat → Prop), l < B' → Kcs B' H' W₁ W₂) → (∃ r, W₂.heap[l]? = some (.loop r)) → body.wpIn (Fence.wide.inRound l) 0 P (rdPost B I' (fun _ _ => False) W₂) a₁ W₂) (fun _ _ _ => False))
   { tmps := (ps.zip args).foldl (fun t (p, v) => t.setIfInBounds p v) a.tmps, defers := [] } W) :
 YieldAt Fence.wide 0 P l args W fun e W' => e = .returned (.bool true) ∧ I' W' ∧ W'.heap[l]? = some (.loop (rec .ready none)) ∧ Hh W' := by
 have hy := run_yield (P := P) (args := args) hl (by rw [hrec]; exact hps)
 rw [hrec] at hy
 refine ⟨fn, _, assign, body, hy, roundIn_of_wpIn trivial (wpIn_mono hround ?_)⟩
 intro e a₁ W₁ q
 cases e with
 | normal =>
  obtain ⟨hk1, hb⟩ := q
  have hl1 := hk1.same _ _ hBl hl rfl
  have hh1 := hH _ _ hh hk1
  refine ⟨_, run_beginRound hl1 (by rw [hrec]), ?_⟩
  have hlt : l < W₁.heap.size := (Array.getElem?_eq_some_iff.1 hl1).1
  have hl2 : (W₁.putObj l (.loop { rec .ready none with state := .busy })).heap[l]? = some (.loop { rec .ready none with state := .busy }) := World.putObj_heap_same hlt
  refine wpIn_mono (hb _ (Sm.putObj _ hl1 rfl hBl) (fun B' H' h => Kcs.putObj _ h) ⟨_, hl2⟩) ?_
  rintro e a3 W3 hp
  cases e with
  | normal =>
   obtain ⟨hk3, hi3⟩ := hp
   have hl3 := hk3.same _ _ hBl hl2 rfl
   have hr := run_endRound (P := P) none hl3
   have hr' : (Instr.endRound l none).run P W3 = .ok (.bool true) (W3.putObj l (.loop (rec .ready none))) := by rw [hrec] at hr ⊢; exact hr
   exact ⟨_, _, hr', rfl, hI' _ _ _ hi3 hl3, World.putObj_heap_same (Array.getElem?_eq_some_iff.1 hl3).1, hHp _ _ (hH _ _ (hHp _ _ hh1) hk3)⟩
  | ret => exact hp.2.elim
  | exit id => exact hp.2.elim
  | goto t => exact hp.2.elim
  | panic ch => exact hp.elim
  | outgrown => exact hp.elim
 | exit id => exact q.elim
 | goto t => exact q.elim
 | ret => exact q.elim
 | panic ch => exact q.elim
 | outgrown => exact q.elim
end Go.Proofs.YtmnhankcbkfhaaaGreatDoor
namespace Go.Proofs.YtmnhankcbkfhaaaGreatDoor
open Go.RowKit
set_option linter.unusedVariables false
theorem kfa {W w1 : World} (hb : Below W.heap.size W w1) (b : Nat) (h : b < W.heap.size := by ((try simp only [World.size_drew, World.size_alloc, World.size_setCell]); omega)) :
 (∀ o, w1.cell? ⟨b, o, none⟩ = W.cell? ⟨b, o, none⟩) ∧ (∀ o, w1.frozen? ⟨b, o, none⟩ = W.frozen? ⟨b, o, none⟩) ∧ b < w1.heap.size :=
 ⟨fun o => hb.cell (p := ⟨b, o, none⟩) h, fun o => hb.frozen (p := ⟨b, o, none⟩) h, Nat.lt_of_lt_of_le h hb.size⟩
end Go.Proofs.YtmnhankcbkfhaaaGreatDoor
namespace Go.Proofs.YtmnhankcbkfhaaaGreatDoor
open Go.RowKit Go.Shelf
set_option linter.unusedVariables false
set_option linter.unusedSimpArgs false
abbrev hdk (cb k : Nat) : Value := .agg #[.int .i64 (k : Int), .pointer (some ⟨cb, 0, none⟩)]
theorem handle_any (cb k : Nat) (w : World) :
 Calls Tryz.prog 86 #[.pointer (some ⟨cb, 0, none⟩), .int .i64 (k : Int)] w fun e w' => e = .returned (hdk cb k) ∧ Below w.heap.size w w' := by
 go_enter Tryz.func86, Tryz.ntmps86
 go_wp2
 exact bodyPost_ret (v := hdk cb k) (by simp [results, Tryz.results86, go_sem, *]) rfl ⟨rfl, by repeat (first | with_reducible apply Below.refl | (with_reducible apply Below.setCell; rotate_left; focus (first | omega | (simp; done) | (simp; omega))) | (with_reducible apply Below.alloc; rotate_left; focus (first | omega | (simp; done) | (simp; omega))))⟩
theorem each_enters : ∀ args w, (callFunc 59 args).run Tryz.prog w = .ok (.enter 59 args) w := enters_of Tryz.func59 (by kernel_rfl) rfl
theorem each_it (cb nn cc : Nat) (ad : Option Addr) (w : World) (hcb : cb < w.heap.size) (hc : w.cell? ⟨cb, 0, none⟩ = some (.slice ad nn cc)) (hn : nn ≤ 1048576) :
 ItC Tryz.prog 59 #[.pointer (some ⟨cb, 0, none⟩)] (fun k => #[hdk cb k]) nn w := by
 intro l J Jx W hbW hJb hJx hY h0
 have hc' : W.cell? ⟨cb, 0, none⟩ = some (.slice ad nn cc) := (hbW.cell (p := ⟨cb, 0, none⟩) hcb).trans hc
 refine callsIn_of_wp Tryz.func59 rfl trivial ?_ rfl
 simp only [Tryz.ntmps59, List.size_toArray, List.length_cons, List.length_nil, Nat.reduceAdd, Nat.reduceSub, Array.replicate_succ, Array.replicate_zero, List.push_toArray, List.append_toArray, List.nil_append, List.cons_append]
 gi_wp2
 gi_loopw [4, 10] (fun _ i wr => ∃ k : Nat, k ≤ nn ∧ i = .int .i64 (k : Int) ∧ J k wr) (fun _ i _ => nn - (intOf i).toNat)
 case atStart => exact ⟨0, Nat.zero_le _, rfl, h0⟩
 case round =>
  obtain ⟨k, hk, rfl, hJ⟩ := hrel
  by_cases hlt : k < nn
  · gi_wp2_with (refine ⟨trivial, rfl, ?_⟩; gi_at_call 86; refine (callsIn_wide.2 (handle_any cb k _)).mono ?_; rintro e w1 ⟨rfl, hb1⟩; have hJ1 := hJb _ _ _ hJ hb1; obtain ⟨fn, tmps, assign, body, hy, hR⟩ := hY k w1 hJ1 hlt)
    refine ⟨rfl, hR.mono ?_⟩
    rintro e w2 (⟨rfl, hJ2⟩ | ⟨rfl, hJx2⟩)
    · gi_wp2
      go_roundw
      case rel => exact ⟨k + 1, by omega, by go_num, hJ2⟩
      case measure => simp [intOf]; omega
    · gi_wp2
      refine bodyPost_ret (results_none rfl _ _ _) rfl ?_
      exact ⟨⟨_, rfl⟩, .inr hJx2⟩
  · gi_wp2
    go_end0
    obtain rfl : k = nn := by omega
    exact ⟨⟨_, rfl⟩, .inl hJ⟩
end Go.Proofs.YtmnhankcbkfhaaaGreatDoor
namespace Go.Proofs.YtmnhankcbkfhaaaGreatDoor
open Go.RowKit
set_option linter.unusedVariables false
set_option linter.unusedSimpArgs false
def mn (x y : Int) : Int := if y < x then y else x
def mx (x y : Int) : Int := if x < y then y else x
theorem spanMeets_any (a b c d r s t u : Int) (w : World) :
 Calls Tryz.prog 178 #[b4 a b c d, b4 r s t u] w fun e w' => e = .returned (.bool (leB a b t u && leB r s c d)) ∧ Below w.heap.size w w' := by
 have hset := cset_map
 go_enter Tryz.func178, Tryz.ntmps178
 go_wp2_with (go_at_call 183; refine (noneGreater_any _ _ _ _ _).mono ?_; rintro e w1 ⟨rfl, hb1⟩; obtain ⟨hc1, hf1⟩ := bcell hb1; have hl1 := blt hb1; have hz1 := hb1.size; (try simp only [zz] at hc1 hf1 hl1 hz1); (try have hq1x0 : w.heap.size < w1.heap.size := (by omega)); (try have hq1x1 : w.heap.size + 1 < w1.heap.size := (by omega)))
 all_goals
  go_ret
  refine ⟨ret_bool ?_, bel_a⟩
  first | (simp [*]; done) | (simp at *; simp [*]; done) | (simp at *; omega)
theorem spanHas_any (a b c d r s t u : Int) (w : World) :
 Calls Tryz.prog 175 #[b4 a b c d, b4 r s t u] w fun e w' => e = .returned (.bool (leB a b r s && leB t u c d)) ∧ Below w.heap.size w w' := by
 have hset := cset_map
 go_enter Tryz.func175, Tryz.ntmps175
 go_wp2_with (go_at_call 183; refine (noneGreater_any _ _ _ _ _).mono ?_; rintro e w1 ⟨rfl, hb1⟩; obtain ⟨hc1, hf1⟩ := bcell hb1; have hl1 := blt hb1; have hz1 := hb1.size; (try simp only [zz] at hc1 hf1 hl1 hz1); (try have hq1x0 : w.heap.size < w1.heap.size := (by omega)); (try have hq1x1 : w.heap.size + 1 < w1.heap.size := (by omega)))
 all_goals
  go_ret
  refine ⟨ret_bool ?_, bel_a⟩
  first | (simp [*]; done) | (simp at *; simp [*]; done) | (simp at *; omega)
theorem least_any (x y u v : Int) (w : World) :
 Calls Tryz.prog 185 #[vv x y, vv u v] w fun e w' => e = .returned (vv (mn x u) (mn y v)) ∧ Below w.heap.size w w' := by
 have hset := cset_map
 go_enter Tryz.func185, Tryz.ntmps185
 go_wp2
 all_goals
  refine bodyPost_ret (v := vv (mn x u) (mn y v)) ?_ rfl ⟨rfl, bel_a⟩
  simp [results, Tryz.results185, go_sem, *]
  try (constructor <;> (unfold mn; split <;> omega))
theorem greatest_any (x y u v : Int) (w : World) :
 Calls Tryz.prog 184 #[vv x y, vv u v] w fun e w' => e = .returned (vv (mx x u) (mx y v)) ∧ Below w.heap.size w w' := by
 have hset := cset_map
 go_enter Tryz.func184, Tryz.ntmps184
 go_wp2
 all_goals
  refine bodyPost_ret (v := vv (mx x u) (mx y v)) ?_ rfl ⟨rfl, bel_a⟩
  simp [results, Tryz.results184, go_sem, *]
  try (constructor <;> (unfold mx; split <;> omega))
theorem grown_setG (w : World) (g q : Nat) (v : Value) : w.grownBy (w.setCell ⟨g, q, none⟩ v) (some g) := ⟨rfl, rfl, rfl, by simp, fun k hk hn => Below.heap_setCell _ _ _ _ (fun e => hn (by rw [e]))⟩
theorem grown_trans {w w' w'' : World} {r : Option Nat} (h : w.grownBy w' r) (k : w'.grownBy w'' r) : w.grownBy w'' r := ⟨k.os.trans h.os, k.tape.trans h.tape, k.output.trans h.output, Nat.le_trans h.size k.size, fun i hi hn => (k.block i (Nat.lt_of_lt_of_le hi h.size) hn).trans (h.block i hi hn)⟩
theorem grown_refl (w : World) (r : Option Nat) : w.grownBy w r := ⟨rfl, rfl, rfl, Nat.le_refl _, fun _ _ _ => rfl⟩
theorem OwnL.setq {w : World} {base t k n g c : Nat} {U : Nat → Int} (h : OwnL w base t k (.slice (Option.some ⟨g, 0, none⟩) n c) n U) (q : Nat) (hq : q < n * k) (x : Int) : OwnL (w.setCell ⟨g, q, none⟩ (.int .i64 x)) base t k (.slice (Option.some ⟨g, 0, none⟩) n c) n (fun r => if r = q then x else U r) := by
 have h1 := (World.ownsRow.stored h q (.int .i64 x)).1
 unfold OwnL
 rw [show numL (n * k) (fun r => if r = q then x else U r) = (numL (n * k) U).set q (.int .i64 x) from ?_]
 · exact h1
 · apply List.ext_getElem?
   intro r
   rw [List.getElem?_set, numL_len]
   by_cases hr : r < n * k
   · rw [numL_get hr]
     by_cases e : q = r
     · subst e; simp; omega
     · rw [if_neg e, numL_get hr]; simp [Ne.symm e]
   · rw [List.getElem?_eq_none (by rw [numL_len]; omega)]
     by_cases e : q = r
     · omega
     · rw [if_neg e, List.getElem?_eq_none (by rw [numL_len]; omega)]
theorem OwnL.loc {w : World} {base t k n c : Nat} {a : Option Addr} {U : Nat → Int} (h : OwnL w base t k (.slice a n c) n U) (h0 : 0 < n) : ∃ g, a = Option.some ⟨g, 0, none⟩ ∧ base ≤ g ∧ g < w.heap.size := by
 rcases h.2 with ⟨hv, hn⟩ | ⟨g, cap, cur, hv, hb, hg, _⟩
 · omega
 · simp only [Value.slice.injEq, true_and] at hv
   exact ⟨g, hv.1, hb, (Array.getElem?_eq_some_iff.1 hg).1⟩
theorem OwnL.cellq {w : World} {base t k n g c : Nat} {U : Nat → Int} (h : OwnL w base t k (.slice (Option.some ⟨g, 0, none⟩) n c) n U) {q : Nat} (hq : q < n * k) : w.cell? ⟨g, q, none⟩ = Option.some (.int .i64 (U q)) := by
 rw [World.ownsRow.cellAt h q hq, numL_get hq]
abbrev mixU (p : Nat) (U : Nat → Int) : Nat → Int := fun q => if q < p then 1 + (q : Int) else U q
theorem OwnL.mark {w : World} {base t k n g c p : Nat} {U : Nat → Int} (h : OwnL w base t k (.slice (Option.some ⟨g, 0, none⟩) n c) n (mixU p U)) (hp : p < n * k) {x : Int} (hx : x = 1 + (p : Int)) : OwnL (w.setCell ⟨g, p, none⟩ (.int .i64 x)) base t k (.slice (Option.some ⟨g, 0, none⟩) n c) n (mixU (p + 1) U) :=
 (h.setq p hp x).congr fun q _ => by
   subst hx
   by_cases e : q = p
   · subst e; simp [mixU]
   · simp only [mixU, if_neg e]
     by_cases l : q < p
     · rw [if_pos l, if_pos (by omega)]
     · rw [if_neg l, if_neg (by omega)]
structure Lv (w : World) (lo hi t k : Nat) (a : Option Addr) (n c : Nat) (U : Nat → Int) : Prop where
 own : OwnL w lo t k (.slice a n c) n U
 top : ∀ b, (Value.slice a n c).ownBlock = some b → b < hi
 le : hi ≤ w.heap.size
theorem Lv.on {w w' : World} {lo hi t k : Nat} {a : Option Addr} {n c : Nat} {U : Nat → Int} (h : Lv w lo hi t k a n c U) (hb : Below w.heap.size w w') : Lv w' lo hi t k a n c U := ⟨h.own.below hb, h.top, Nat.le_trans h.le hb.size⟩
theorem Lv.flat {w : World} {lo hi t k : Nat} {a : Option Addr} {n c : Nat} {U : Nat → Int} (h : Lv w lo hi t k a n c U) : Flat w a (n * k) U := h.own.flat
theorem Lv.gr {w w' : World} {lo hi t k lo' hi' t' k' n' c' : Nat} {a' : Option Addr} {a : Option Addr} {n c : Nat} {U U' : Nat → Int} (h : Lv w lo hi t k a n c U) (h' : Lv w lo' hi' t' k' a' n' c' U') (hg : w.grownBy w' (Value.slice a' n' c').ownBlock) (hs : hi ≤ lo' ∨ hi' ≤ lo) : Lv w' lo hi t k a n c U := by
 refine ⟨?_, h.top, Nat.le_trans h.le hg.size⟩
 cases e : (Value.slice a n c).ownBlock with
 | none => exact h.own.kept hg (.inl e)
 | some b => exact h.own.kept hg (.inr (fun q => by
  have k1 := (h'.own.lt b (q ▸ e)).1
  have k1' := h'.top b (q ▸ e)
  have k2 := (h.own.lt b e).1
  have k3 := h.top b e
  omega))
theorem Lv.me {w w' : World} {lo hi t k : Nat} {a : Option Addr} {n c : Nat} {U U' : Nat → Int} (h : Lv w lo hi t k a n c U) (hg : w.grownBy w' (Value.slice a n c).ownBlock) (ho : OwnL w' lo t k (.slice a n c) n U') : Lv w' lo hi t k a n c U' := ⟨ho, h.top, Nat.le_trans h.le hg.size⟩
theorem Lv.below {w0 w w' : World} {lo hi t k B : Nat} {a : Option Addr} {n c : Nat} {U : Nat → Int} (h : Lv w lo hi t k a n c U) (hB : Below B w0 w) (hBw : B ≤ w.heap.size) (hg : w.grownBy w' (Value.slice a n c).ownBlock) (hl : B ≤ lo) : Below B w0 w' :=
 hB.grown hg hBw (fun b e => by have := (h.own.lt b e).1; omega)
theorem Lv.row {w w' : World} {b n t k : Nat} {U : Nat → Int} (h : Row w' b t (n * k) U) (hb : w.heap.size ≤ b) (hn : n ≤ 1048576) : Lv w' w.heap.size w'.heap.size t k (some ⟨b, 0, none⟩) n n U :=
 ⟨h.own hb (by unfold maxLen; omega), fun x e => by simp [Value.ownBlock] at e; subst e; exact h.lt, Nat.le_refl _⟩
structure OutL (w w' : World) (t k : Nat) (a : Option Addr) (n c : Nat) (R : Nat → Int) : Prop where
 bel : Below w.heap.size w w'
 own : OwnL w' w.heap.size t k (.slice a n c) n R
theorem OutL.lv {w w' : World} {t k : Nat} {a : Option Addr} {n c : Nat} {R : Nat → Int} (h : OutL w w' t k a n c R) : Lv w' w.heap.size w'.heap.size t k a n c R := ⟨h.own, fun b e => (h.own.lt b e).2, Nat.le_refl _⟩
def ofL (l : List Int) : Nat → Int := fun q => l.getD q 0
theorem ofL_app (l x : List Int) (q : Nat) (h : q < l.length) : ofL (l ++ x) q = ofL l q := by
 unfold ofL
 rw [List.getD_eq_getElem?_getD, List.getD_eq_getElem?_getD, List.getElem?_append_left h]
theorem ofL_app' (l x : List Int) (q : Nat) (h : l.length ≤ q) : ofL (l ++ x) q = ofL x (q - l.length) := by
 unfold ofL
 rw [List.getD_eq_getElem?_getD, List.getD_eq_getElem?_getD, List.getElem?_append_right h]
theorem cat_ofL (l x : List Int) : cat l.length (ofL l) (ofL x) = ofL (l ++ x) := by
 funext q
 unfold cat
 by_cases h : q < l.length
 · rw [if_pos h, ofL_app l x q h]
 · rw [if_neg h, ofL_app' l x q (by omega)]
theorem step_appk {P : Program} {w : World} {ops : Array Oper} {o : Oper} {a : Act} {K : Act → World → Prop} {Q : Exit → Act → World → Prop} {E : Prop} (hgd : o.guard = none) (s x : Operand) (t : TypeId)
 (ho : o.op = .call { callee := .builtin .append, args := #[s, x], argTypes := #[t, t] })
 (base e k bytes : Nat) (z : Value) (ht : P.underlying t = some (.slice e)) (hinfo : (P.info? e).map (fun i => (i.zero, i.size, i.bytes)) = some (some z, k, bytes)) (hzs : z.cells.size = k) (hk : 0 < k)
 (v : Value) (n : Nat) (U : Nat → Int) (hs : a.eval s = v) (h : OwnL w base e k v n U) (B c : Nat) (X : Nat → Int) (hx : a.eval x = .slice (some ⟨B, 0, none⟩) 1 c) (hv : ∀ q, q < k → w.cell? ⟨B, q, none⟩ = some (.int .i64 (X q)))
 (h63 : n + 1 ≤ maxLen) (hbytes : (n + 1) * bytes ≤ 140737488355328) (hbase : base ≤ w.heap.size) (H : Nat) (hH : w.heap.size = H)
 (hK : ∀ g cap w', OwnL w' base e k (.slice (some ⟨g, 0, none⟩) (n + 1) cap) (n + 1) (cat (n * k) U X) → w.grownBy w' v.ownBlock → (v.ownBlock = some g ∨ g = H) → g < w'.heap.size → K (a.put o.dst (.slice (some ⟨g, 0, none⟩) (n + 1) cap)) w') :
 if Region.wanted o (yielded ops a.tmps) = true then Oper.wp P o a w K Q else E := by
 obtain ⟨i, hi, hzz⟩ := Option.map_eq_some_iff.1 hinfo
 simp only [Prod.mk.injEq] at hzz
 obtain ⟨hz, hsz, hby⟩ := hzz
 refine step_append_lies w hgd s x t ho base e i z k bytes ht hi hz hsz hby hzs hk v n (numL (n * k) U) hs h ⟨B, 0, none⟩ 1 c (numL (1 * k) X) hx (numL_len _ _) ?_ (fun u hu => by obtain ⟨q, _, rfl⟩ := List.mem_map.1 hu; rfl) (by omega) h63 hbytes hbase H hH ?_
 · intro j u hu
   have hj : j < 1 * k := by have := (List.getElem?_eq_some_iff.1 hu).1; rwa [numL_len] at this
   rw [numL_get hj] at hu
   rw [Addr.add_lit, Nat.zero_add, hv j (by omega)]
   exact hu
 · intro g cap w' h2 h3 h4 h5
   refine hK g cap w' ?_ h3 h4 h5
   unfold OwnL
   rw [Nat.add_mul, ← numL_cat]
   exact h2
end Go.Proofs.YtmnhankcbkfhaaaGreatDoor
namespace Go.Proofs.YtmnhankcbkfhaaaGreatDoor
open Go.RowKit
set_option linter.unusedVariables false
theorem kf2 {W w1 : World} (hb : Below W.heap.size W w1) (b : Nat) (h : b + 1 < W.heap.size := by ((try simp only [zz]); omega)) :
 ((∀ o, w1.cell? ⟨b, o, none⟩ = W.cell? ⟨b, o, none⟩) ∧ (∀ o, w1.frozen? ⟨b, o, none⟩ = W.frozen? ⟨b, o, none⟩) ∧ b < w1.heap.size) ∧ ((∀ o, w1.cell? ⟨b + 1, o, none⟩ = W.cell? ⟨b + 1, o, none⟩) ∧ (∀ o, w1.frozen? ⟨b + 1, o, none⟩ = W.frozen? ⟨b + 1, o, none⟩) ∧ b + 1 < w1.heap.size) :=
 ⟨kfa hb (b) (by omega), kfa hb (b + 1) (by omega)⟩
theorem kf3 {W w1 : World} (hb : Below W.heap.size W w1) (b : Nat) (h : b + 1 + 1 < W.heap.size := by ((try simp only [zz]); omega)) :
 ((∀ o, w1.cell? ⟨b, o, none⟩ = W.cell? ⟨b, o, none⟩) ∧ (∀ o, w1.frozen? ⟨b, o, none⟩ = W.frozen? ⟨b, o, none⟩) ∧ b < w1.heap.size) ∧ ((∀ o, w1.cell? ⟨b + 1, o, none⟩ = W.cell? ⟨b + 1, o, none⟩) ∧ (∀ o, w1.frozen? ⟨b + 1, o, none⟩ = W.frozen? ⟨b + 1, o, none⟩) ∧ b + 1 < w1.heap.size) ∧ ((∀ o, w1.cell? ⟨b + 1 + 1, o, none⟩ = W.cell? ⟨b + 1 + 1, o, none⟩) ∧ (∀ o, w1.frozen? ⟨b + 1 + 1, o, none⟩ = W.frozen? ⟨b + 1 + 1, o, none⟩) ∧ b + 1 + 1 < w1.heap.size) :=
 ⟨kfa hb (b) (by omega), kfa hb (b + 1) (by omega), kfa hb (b + 1 + 1) (by omega)⟩
theorem kf4 {W w1 : World} (hb : Below W.heap.size W w1) (b : Nat) (h : b + 1 + 1 + 1 < W.heap.size := by ((try simp only [zz]); omega)) :
 ((∀ o, w1.cell? ⟨b, o, none⟩ = W.cell? ⟨b, o, none⟩) ∧ (∀ o, w1.frozen? ⟨b, o, none⟩ = W.frozen? ⟨b, o, none⟩) ∧ b < w1.heap.size) ∧ ((∀ o, w1.cell? ⟨b + 1, o, none⟩ = W.cell? ⟨b + 1, o, none⟩) ∧ (∀ o, w1.frozen? ⟨b + 1, o, none⟩ = W.frozen? ⟨b + 1, o, none⟩) ∧ b + 1 < w1.heap.size) ∧ ((∀ o, w1.cell? ⟨b + 1 + 1, o, none⟩ = W.cell? ⟨b + 1 + 1, o, none⟩) ∧ (∀ o, w1.frozen? ⟨b + 1 + 1, o, none⟩ = W.frozen? ⟨b + 1 + 1, o, none⟩) ∧ b + 1 + 1 < w1.heap.size) ∧ ((∀ o, w1.cell? ⟨b + 1 + 1 + 1, o, none⟩ = W.cell? ⟨b + 1 + 1 + 1, o, none⟩) ∧ (∀ o, w1.frozen? ⟨b + 1 + 1 + 1, o, none⟩ = W.frozen? ⟨b + 1 + 1 + 1, o, none⟩) ∧ b + 1 + 1 + 1 < w1.heap.size) :=
 ⟨kfa hb (b) (by omega), kfa hb (b + 1) (by omega), kfa hb (b + 1 + 1) (by omega), kfa hb (b + 1 + 1 + 1) (by omega)⟩
theorem kf5 {W w1 : World} (hb : Below W.heap.size W w1) (b : Nat) (h : b + 1 + 1 + 1 + 1 < W.heap.size := by ((try simp only [zz]); omega)) :
 ((∀ o, w1.cell? ⟨b, o, none⟩ = W.cell? ⟨b, o, none⟩) ∧ (∀ o, w1.frozen? ⟨b, o, none⟩ = W.frozen? ⟨b, o, none⟩) ∧ b < w1.heap.size) ∧ ((∀ o, w1.cell? ⟨b + 1, o, none⟩ = W.cell? ⟨b + 1, o, none⟩) ∧ (∀ o, w1.frozen? ⟨b + 1, o, none⟩ = W.frozen? ⟨b + 1, o, none⟩) ∧ b + 1 < w1.heap.size) ∧ ((∀ o, w1.cell? ⟨b + 1 + 1, o, none⟩ = W.cell? ⟨b + 1 + 1, o, none⟩) ∧ (∀ o, w1.frozen? ⟨b + 1 + 1, o, none⟩ = W.frozen? ⟨b + 1 + 1, o, none⟩) ∧ b + 1 + 1 < w1.heap.size) ∧ ((∀ o, w1.cell? ⟨b + 1 + 1 + 1, o, none⟩ = W.cell? ⟨b + 1 + 1 + 1, o, none⟩) ∧ (∀ o, w1.frozen? ⟨b + 1 + 1 + 1, o, none⟩ = W.frozen? ⟨b + 1 + 1 + 1, o, none⟩) ∧ b + 1 + 1 + 1 < w1.heap.size) ∧ ((∀ o, w1.cell? ⟨b + 1 + 1 + 1 + 1, o, none⟩ = W.cell? ⟨b + 1 + 1 + 1 + 1, o, none⟩) ∧ (∀ o, w1.frozen? ⟨b + 1 + 1 + 1 + 1, o, none⟩ = W.frozen? ⟨b + 1 + 1 + 1 + 1, o, none⟩) ∧ b + 1 + 1 + 1 + 1 < w1.heap.size) :=
 ⟨kfa hb (b) (by omega), kfa hb (b + 1) (by omega), kfa hb (b + 1 + 1) (by omega), kfa hb (b + 1 + 1 + 1) (by omega), kfa hb (b + 1 + 1 + 1 + 1) (by omega)⟩
theorem kf6 {W w1 : World} (hb : Below W.heap.size W w1) (b : Nat) (h : b + 1 + 1 + 1 + 1 + 1 < W.heap.size := by ((try simp only [zz]); omega)) :
 ((∀ o, w1.cell? ⟨b, o, none⟩ = W.cell? ⟨b, o, none⟩) ∧ (∀ o, w1.frozen? ⟨b, o, none⟩ = W.frozen? ⟨b, o, none⟩) ∧ b < w1.heap.size) ∧ ((∀ o, w1.cell? ⟨b + 1, o, none⟩ = W.cell? ⟨b + 1, o, none⟩) ∧ (∀ o, w1.frozen? ⟨b + 1, o, none⟩ = W.frozen? ⟨b + 1, o, none⟩) ∧ b + 1 < w1.heap.size) ∧ ((∀ o, w1.cell? ⟨b + 1 + 1, o, none⟩ = W.cell? ⟨b + 1 + 1, o, none⟩) ∧ (∀ o, w1.frozen? ⟨b + 1 + 1, o, none⟩ = W.frozen? ⟨b + 1 + 1, o, none⟩) ∧ b + 1 + 1 < w1.heap.size) ∧ ((∀ o, w1.cell? ⟨b + 1 + 1 + 1, o, none⟩ = W.cell? ⟨b + 1 + 1 + 1, o, none⟩) ∧ (∀ o, w1.frozen? ⟨b + 1 + 1 + 1, o, none⟩ = W.frozen? ⟨b + 1 + 1 + 1, o, none⟩) ∧ b + 1 + 1 + 1 < w1.heap.size) ∧ ((∀ o, w1.cell? ⟨b + 1 + 1 + 1 + 1, o, none⟩ = W.cell? ⟨b + 1 + 1 + 1 + 1, o, none⟩) ∧ (∀ o, w1.frozen? ⟨b + 1 + 1 + 1 + 1, o, none⟩ = W.frozen? ⟨b + 1 + 1 + 1 + 1, o, none⟩) ∧ b + 1 + 1 + 1 + 1 < w1.heap.size) ∧ ((∀ o, w1.cell? ⟨b + 1 + 1 + 1 + 1 + 1, o, none⟩ = W.cell? ⟨b + 1 + 1 + 1 + 1 + 1, o, none⟩) ∧ (∀ o, w1.frozen? ⟨b + 1 + 1 + 1 + 1 + 1, o, none⟩ = W.frozen? ⟨b + 1 + 1 + 1 + 1 + 1, o, none⟩) ∧ b + 1 + 1 + 1 + 1 + 1 < w1.heap.size) :=
 ⟨kfa hb (b) (by omega), kfa hb (b + 1) (by omega), kfa hb (b + 1 + 1) (by omega), kfa hb (b + 1 + 1 + 1) (by omega), kfa hb (b + 1 + 1 + 1 + 1) (by omega), kfa hb (b + 1 + 1 + 1 + 1 + 1) (by omega)⟩
end Go.Proofs.YtmnhankcbkfhaaaGreatDoor
namespace Go.Proofs.YtmnhankcbkfhaaaGreatDoor
open Go.RowKit
set_option linter.unusedVariables false
set_option linter.unusedSimpArgs false
def bb (o : Bool) (x : Int) : Int := if o = true then x else 0
end Go.Proofs.YtmnhankcbkfhaaaGreatDoor
namespace Go.Proofs.YtmnhankcbkfhaaaGreatDoor
open Go.RowKit
set_option linter.unusedVariables false
theorem kfy {m : Nat} {W w1 : World} (hc : ∀ b o, b < m → w1.cell? ⟨b, o, none⟩ = W.cell? ⟨b, o, none⟩) (hf : ∀ b o, b < m → w1.frozen? ⟨b, o, none⟩ = W.frozen? ⟨b, o, none⟩) (hz : m ≤ w1.heap.size) (b : Nat) (h : b < m) :
 (∀ o, w1.cell? ⟨b, o, none⟩ = W.cell? ⟨b, o, none⟩) ∧ (∀ o, w1.frozen? ⟨b, o, none⟩ = W.frozen? ⟨b, o, none⟩) ∧ b < w1.heap.size ∧ (b = w1.heap.size) = False ∧ (w1.heap.size = b) = False :=
 have q := Nat.lt_of_lt_of_le h hz
 ⟨fun o => hc b o h, fun o => hf b o h, q, eq_false (Nat.ne_of_lt q), eq_false (Nat.ne_of_gt q)⟩
theorem kfz {m : Nat} {W w1 : World} (hc : ∀ b o, b < m → w1.cell? ⟨b, o, none⟩ = W.cell? ⟨b, o, none⟩) (hf : ∀ b o, b < m → w1.frozen? ⟨b, o, none⟩ = W.frozen? ⟨b, o, none⟩) (hz : m ≤ w1.heap.size) (b : Nat) (h : b < m) :
 (∀ o, w1.cell? ⟨b, o, none⟩ = W.cell? ⟨b, o, none⟩) ∧ (∀ o, w1.frozen? ⟨b, o, none⟩ = W.frozen? ⟨b, o, none⟩) ∧ b < w1.heap.size ∧ (w1.heap.size = b) = False :=
 have q := Nat.lt_of_lt_of_le h hz
 ⟨fun o => hc b o h, fun o => hf b o h, q, eq_false (Nat.ne_of_gt q)⟩
end Go.Proofs.YtmnhankcbkfhaaaGreatDoor
