/- A list that a function makes. A contract of spans. Boxes with their numbers, copied and put together. Where a number's box is, or would come: both sides; copies. A box taken away: the specification's side. The contracts of the specification's BoxMeets and BoxHas. Closed facts of the loaded program, each a theorem of its own. -/
import Derived.Test.YtcbgcochpflblaaB6
import Derived.Test.YtcbgcochpflblaaB16
import Derived.Deep.QuietTactic
import Derived.BigQuiet
import Derived.Deep.RegionWith
import Derived.Deep.RegionHeld3
import Derived.Test.YtcbgcochpflblaaLsB
import Derived.Test.YtcbgcochpflblaaAp
import Derived.Lib.AppendZeros
import Derived.Deep.DeepCutAuto
import Derived.Test.YtcbgcochpflblaaB1
import Derived.Test.YtcbgcochpflblaaB14
import Derived.ProofKit
namespace Go.Proofs.Ytcbgcochpflblaa
open Go.RowKit
set_option linter.unusedVariables false
set_option linter.unusedSimpArgs false
/-- a list that a function makes, in its own memory -/
structure LsV (w wr : World) (t k : Nat) (a : Option Addr) (m c : Nat) (l : List Int) : Prop where
  bel : Below w.heap.size w wr
  len : l.length = m * k
  own : OwnL wr w.heap.size t k (.slice a m c) m (ofL l)
theorem LsV.below {w wr w' : World} {t k m c : Nat} {a : Option Addr} {l : List Int} (h : LsV w wr t k a m c l) (hb : Below wr.heap.size wr w') : LsV w w' t k a m c l := ⟨h.bel.trans (hb.mono h.bel.size), h.len, h.own.below hb⟩
theorem LsV.push {w wr w1 : World} {t k m c c' : Nat} {a a' : Option Addr} {l x : List Int} (h : LsV w wr t k a m c l) (hx : x.length = k) (hg : wr.grownBy w1 (Value.slice a m c).ownBlock) (ho : OwnL w1 w.heap.size t k (.slice a' (m + 1) c') (m + 1) (cat (m * k) (ofL l) (ofL x))) : LsV w w1 t k a' (m + 1) c' (l ++ x) :=
  ⟨h.bel.grown hg h.bel.size (fun b e => (h.own.lt b e).1), by rw [List.length_append, h.len, hx, Nat.succ_mul], by rw [← cat_ofL, h.len]; exact ho⟩
theorem LsV.new (w : World) (t k : Nat) : LsV w (w.alloc (.cells #[] t)) t k (some ⟨w.heap.size, 0, none⟩) 0 0 [] :=
  ⟨(Below.refl _ _).alloc (Nat.le_refl _) _, by simp, ⟨by simp [numL], .inr ⟨w.heap.size, 0, #[], rfl, Nat.le_refl _, Go.Deep.blk_alloc_new _ _, Nat.le_refl _, Nat.zero_le _, by simp, by simp [numL]⟩⟩⟩
theorem LsV.nil (w : World) (t k : Nat) : LsV w w t k none 0 0 [] := ⟨Below.refl _ _, by simp, OwnL.nil _ _ _ _ _⟩
theorem LsV.out {w0 w wr : World} {t k m c : Nat} {a : Option Addr} {l : List Int} (h : LsV w wr t k a m c l) (hb : Below w0.heap.size w0 w) : OutL w0 wr t k a m c (ofL l) := ⟨hb.trans (h.bel.mono hb.size), h.own.base hb.size⟩
end Go.Proofs.Ytcbgcochpflblaa
namespace Go.Proofs.Ytcbgcochpflblaa
open Go.RowKit
set_option linter.unusedVariables false
set_option linter.unusedSimpArgs false

set_option maxHeartbeats 8000000 in
theorem spanBoth_any (a b c d r s t u : Int) (w : World) :
    Calls Try.prog 44 #[b4 a b c d, b4 r s t u] w fun e w' => e = .returned (b4 (mn a r) (mn b s) (mx c t) (mx d u)) ∧ Below w.heap.size w w' := by
  have hset := cset_map
  go_enter Try.func44, Try.ntmps44
  go_wp2
  go_region_held3 (fun w' => w'.cell? ⟨w.heap.size, 0, none⟩ = some (.int .i64 a) ∧ w'.cell? ⟨w.heap.size, 1, none⟩ = some (.int .i64 b) ∧ w'.cell? ⟨w.heap.size, 2, none⟩ = some (.int .i64 c) ∧ w'.cell? ⟨w.heap.size, 3, none⟩ = some (.int .i64 d) ∧ w'.cell? ⟨w.heap.size + 1, 0, none⟩ = some (.int .i64 r) ∧ w'.cell? ⟨w.heap.size + 1, 1, none⟩ = some (.int .i64 s) ∧ w'.cell? ⟨w.heap.size + 1, 2, none⟩ = some (.int .i64 t) ∧ w'.cell? ⟨w.heap.size + 1, 3, none⟩ = some (.int .i64 u)) (first | (go_simp; done) | (go_keep; done)) (first
    | (go_at_call 58; refine (least_any _ _ _ _ _).mono ?_; rintro e w1 ⟨rfl, hb1⟩; obtain ⟨hc1, hf1⟩ := bcell hb1; have hl1 := blt hb1; have hz1 := hb1.size; (try simp only [World.size_drew, World.size_alloc, World.size_setCell] at hc1 hf1 hl1 hz1); (try have hq1x0 : w.heap.size < w1.heap.size := (by omega)); (try have hq1x1 : w.heap.size + 1 < w1.heap.size := (by omega)); (try have hq1x2 : w.heap.size + 1 + 1 < w1.heap.size := (by omega)))
    | (go_at_call 59; refine (greatest_any _ _ _ _ _).mono ?_; rintro e w1 ⟨rfl, hb1⟩; obtain ⟨hc1, hf1⟩ := bcell hb1; have hl1 := blt hb1; have hz1 := hb1.size; (try simp only [World.size_drew, World.size_alloc, World.size_setCell] at hc1 hf1 hl1 hz1); (try have hq1x0 : w.heap.size < w1.heap.size := (by omega)); (try have hq1x1 : w.heap.size + 1 < w1.heap.size := (by omega)); (try have hq1x2 : w.heap.size + 1 + 1 < w1.heap.size := (by omega))))
  all_goals
    go_wp2
    exact bodyPost_ret (v := b4 (mn a r) (mn b s) (mx c t) (mx d u)) (by simp [results, Try.results44, go_sem, *]) rfl ⟨rfl, bel_a⟩

end Go.Proofs.Ytcbgcochpflblaa
namespace Go.Proofs.Ytcbgcochpflblaa
open Go.RowKit
set_option linter.unusedVariables false
set_option linter.unusedSimpArgs false
def lenS (L : Nat → Nat) : Nat → Nat
  | 0 => 0
  | k + 1 => lenS L k + L k
def catS (L : Nat → Nat) (X : Nat → Nat → Int) : Nat → Nat → Int
  | 0 => fun _ => 0
  | k + 1 => cat (lenS L k * 5) (catS L X k) (X k)
end Go.Proofs.Ytcbgcochpflblaa
namespace Go.Proofs.Ytcbgcochpflblaa
open Go.RowKit
set_option linter.unusedVariables false
set_option linter.unusedSimpArgs false
structure IsAt (n : Nat) (U : Nat → Int) (id : Int) (k : Nat) : Prop where
  le : k ≤ n
  low : ∀ j, j < k → U (j * 5) < id
  stop : k < n → ¬ U (k * 5) < id
def thereB (n : Nat) (U : Nat → Int) (id : Int) (k : Nat) : Bool := decide (k < n ∧ U (k * 5) = id)
/-- what is handed out: a list of one's own -/
structure Out (w w' : World) (a : Option Addr) (n c : Nat) (R : Nat → Int) : Prop where
  own : OwnL w' w.heap.size 59 5 (.slice a n c) n R
  bel : Below w.heap.size w w'
theorem Out.set {w w' : World} {a : Option Addr} {n c : Nat} {R : Nat → Int} (h : Out w w' a n c R) {p : Addr} (v : Value) (hp : w.heap.size ≤ p.block) (hne : (Value.slice a n c).ownBlock ≠ some p.block) : Out w (w'.setCell p v) a n c R := by
  refine ⟨?_, h.bel.setCell hp v⟩
  refine h.own.kept (row := some p.block) ⟨rfl, rfl, rfl, by simp, fun k hk hn => Below.heap_setCell _ _ _ _ (fun e => hn (by rw [e]))⟩ (.inr hne)
end Go.Proofs.Ytcbgcochpflblaa
namespace Go.Proofs.Ytcbgcochpflblaa
open Go.RowKit
set_option linter.unusedVariables false
set_option linter.unusedSimpArgs false
theorem sBroadOk_q (a : Option Addr) (n c : Nat) (U : Nat → Int) (r : Bool) (w : World) (h : Flat w a (n * 5) U) (hn : n ≤ 1048576) (e : broadB n U = r) :
    Calls Try.prog 17 #[.agg #[.slice a n c]] w fun e w' => e = .returned (.bool r) ∧ Below w.heap.size w w' := by subst e; exact sBroadOk_any a n c U w h hn
theorem broadOk_q (a : Option Addr) (n c : Nat) (U : Nat → Int) (r : Bool) (w : World) (h : Flat w a (n * 5) U) (hn : n ≤ 1048576) (e : broadB n U = r) :
    Calls Try.prog 20 #[.agg #[.slice a n c]] w fun e w' => e = .returned (.bool r) ∧ Below w.heap.size w w' := by subst e; exact broadOk_any a n c U w h hn
/-- what lies where inside: the box that came in, and the answer's -/
structure GB (w wr : World) (a : Option Addr) (n c : Nat) : Prop where
  bel : Below w.heap.size w wr
  big : w.heap.size + 1 < wr.heap.size
  box : wr.cell? ⟨w.heap.size, 0, none⟩ = some (.slice a n c)
  res : wr.cell? ⟨w.heap.size + 1, 0, none⟩ = some (.slice none 0 0)
  nfr : wr.frozen? ⟨w.heap.size + 1, 0, none⟩ = false
theorem GB.on {w wr w' : World} {a : Option Addr} {n c : Nat} (h : GB w wr a n c) (hb : Below wr.heap.size wr w') : GB w w' a n c :=
  ⟨h.bel.trans (hb.mono (by have := h.big; omega)), Nat.lt_of_lt_of_le h.big hb.size, (hb.cell (p := ⟨w.heap.size, 0, none⟩) (by have := h.big; simp; omega)).trans h.box, (hb.cell (p := ⟨w.heap.size + 1, 0, none⟩) h.big).trans h.res, (hb.frozen (p := ⟨w.heap.size + 1, 0, none⟩) h.big).trans h.nfr⟩
def GoIs (n : Nat) (U : Nat → Int) (id : Int) (k N : Nat) (R : Nat → Int) (B : Bool) : Prop :=
  (broadB n U = false ∧ N = 0 ∧ B = false) ∨ (broadB n U = true ∧ thereB n U id k = false ∧ N = n ∧ B = false ∧ R = U) ∨
  (broadB n U = true ∧ thereB n U id k = true ∧ N + 1 = n ∧ B = true ∧ R = cat (k * 5) U (fun q => U (q + (k + 1) * 5)))
end Go.Proofs.Ytcbgcochpflblaa
namespace Go.Proofs.Ytcbgcochpflblaa
open Go.RowKit
set_option linter.unusedVariables false
set_option linter.unusedSimpArgs false

def ptB (a b c d x y : Int) : Bool := decide ((a ≤ x ∧ x ≤ c) ∧ (b ≤ y ∧ y ≤ d))
set_option maxHeartbeats 1000000 in
theorem l3Meets_any (a b c d r s t u : Int) (w : World) :
    Calls Try.prog 30 #[b4 a b c d, b4 r s t u] w fun e w' => e = .returned (.bool (leB a b t u && leB r s c d)) ∧ Below w.heap.size w w' := by
  have hset := cset_map
  go_enter Try.func30, Try.ntmps30
  go_wp2
  all_goals
    go_ret
    refine ⟨ret_bool ?_, bel_a⟩
    unfold leB
    first | (simp [*]; done) | (simp at *; omega) | (simp [*]; omega)

end Go.Proofs.Ytcbgcochpflblaa
namespace Go.Proofs.Ytcbgcochpflblaa
set_option maxRecDepth 100000
def ordL : { l : List Char // Try.prog.initOrder = String.ofList l } := ⟨_, rfl⟩
theorem ordT : Try.prog.initOrder.toList = ordL.1 := (congrArg String.toList ordL.2).trans String.toList_ofList
theorem headE : ((behindMainWord (wordsSigns ordL.1)).head? == some "cut".toList) = true := by kernel_rfl
theorem makeT : Try.prog.make = some .cut := make_of ordT headE
theorem liftsFinalT : Try.prog.liftsFinal = false := liftsFinal_of ordT headE
theorem laysLaterT : Try.prog.laysLater = false := by kernel_rfl
theorem bearsReflectT : Try.prog.bearsReflect = false := by kernel_rfl
theorem doorFitsT : Try.prog.doorFits [] = true := by kernel_rfl
theorem mayEnterT : Try.prog.mayEnter = true := mayEnter_of ordT headE laysLaterT bearsReflectT doorFitsT
theorem ownT : ownKnob Try.prog.godebug = none := by kernel_rfl
theorem laidOutT : laidOutB Try.prog = true := by kernel_rfl
theorem mapsRowedT : mapsRowed Try.prog = true := by kernel_rfl
theorem stopsHeardT : Try.prog.stopsHeard = true := by kernel_rfl
theorem plainKeysT : Try.prog.plainKeys = true := by kernel_rfl
end Go.Proofs.Ytcbgcochpflblaa
