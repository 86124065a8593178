/- Lists in memory of their own, beside others; marks. Worlds: the law's own functions on pairs and worlds. Whether bodies are ok: both sides. BodiesOk, by the program. -/
import Derived.Test.YthekeeagjokpeaaB1
import Derived.Test.YthekeeagjokpeaaB5
import Derived.Deep.RegionHeld3
import Derived.Deep.DeepCutAuto
namespace Go.Proofs.Ythekeeagjokpeaa
open Go.RowKit
set_option linter.unusedVariables false
set_option linter.unusedSimpArgs false
theorem grown_setG (w : World) (g q : Nat) (v : Value) : w.grownBy (w.setCell ⟨g, q, none⟩ v) (some g) := ⟨rfl, rfl, rfl, by simp, fun k hk hn => Below.heap_setCell _ _ _ _ (fun e => hn (by rw [e]))⟩
theorem grown_trans {w w' w'' : World} {r : Option Nat} (h : w.grownBy w' r) (k : w'.grownBy w'' r) : w.grownBy w'' r := ⟨k.os.trans h.os, k.tape.trans h.tape, k.output.trans h.output, Nat.le_trans h.size k.size, fun i hi hn => (k.block i (Nat.lt_of_lt_of_le hi h.size) hn).trans (h.block i hi hn)⟩
theorem grown_refl (w : World) (r : Option Nat) : w.grownBy w r := ⟨rfl, rfl, rfl, Nat.le_refl _, fun _ _ _ => rfl⟩
theorem OwnL.setq {w : World} {base t k n g c : Nat} {U : Nat → Int} (h : OwnL w base t k (.slice (Option.some ⟨g, 0, none⟩) n c) n U) (q : Nat) (hq : q < n * k) (x : Int) : OwnL (w.setCell ⟨g, q, none⟩ (.int .i64 x)) base t k (.slice (Option.some ⟨g, 0, none⟩) n c) n (fun r => if r = q then x else U r) := by
  have h1 := (World.ownsRow.stored h q (.int .i64 x)).1
  unfold OwnL
  rw [show numL (n * k) (fun r => if r = q then x else U r) = (numL (n * k) U).set q (.int .i64 x) from ?_]
  · exact h1
  · apply List.ext_getElem?
    intro r
    rw [List.getElem?_set, numL_len]
    by_cases hr : r < n * k
    · rw [numL_get hr]
      by_cases e : q = r
      · subst e; simp; omega
      · rw [if_neg e, numL_get hr]; simp [Ne.symm e]
    · rw [List.getElem?_eq_none (by rw [numL_len]; omega)]
      by_cases e : q = r
      · omega
      · rw [if_neg e, List.getElem?_eq_none (by rw [numL_len]; omega)]
theorem OwnL.loc {w : World} {base t k n c : Nat} {a : Option Addr} {U : Nat → Int} (h : OwnL w base t k (.slice a n c) n U) (h0 : 0 < n) : ∃ g, a = Option.some ⟨g, 0, none⟩ ∧ base ≤ g ∧ g < w.heap.size := by
  rcases h.2 with ⟨hv, hn⟩ | ⟨g, cap, cur, hv, hb, hg, _⟩
  · omega
  · simp only [Value.slice.injEq, true_and] at hv
    exact ⟨g, hv.1, hb, (Array.getElem?_eq_some_iff.1 hg).1⟩
theorem OwnL.cellq {w : World} {base t k n g c : Nat} {U : Nat → Int} (h : OwnL w base t k (.slice (Option.some ⟨g, 0, none⟩) n c) n U) {q : Nat} (hq : q < n * k) : w.cell? ⟨g, q, none⟩ = Option.some (.int .i64 (U q)) := by
  rw [World.ownsRow.cellAt h q hq, numL_get hq]
/-- marked up to p -/
abbrev mixU (p : Nat) (U : Nat → Int) : Nat → Int := fun q => if q < p then 1 + (q : Int) else U q
theorem OwnL.mark {w : World} {base t k n g c p : Nat} {U : Nat → Int} (h : OwnL w base t k (.slice (Option.some ⟨g, 0, none⟩) n c) n (mixU p U)) (hp : p < n * k) {x : Int} (hx : x = 1 + (p : Int)) : OwnL (w.setCell ⟨g, p, none⟩ (.int .i64 x)) base t k (.slice (Option.some ⟨g, 0, none⟩) n c) n (mixU (p + 1) U) :=
  (h.setq p hp x).congr fun q _ => by
    subst hx
    by_cases e : q = p
    · subst e; simp [mixU]
    · simp only [mixU, if_neg e]
      by_cases l : q < p
      · rw [if_pos l, if_pos (by omega)]
      · rw [if_neg l, if_neg (by omega)]
/-- a list whose block lies from lo on and below hi -/
structure Lv (w : World) (lo hi t k : Nat) (a : Option Addr) (n c : Nat) (U : Nat → Int) : Prop where
  own : OwnL w lo t k (.slice a n c) n U
  top : ∀ b, (Value.slice a n c).ownBlock = some b → b < hi
  le : hi ≤ w.heap.size
theorem Lv.on {w w' : World} {lo hi t k : Nat} {a : Option Addr} {n c : Nat} {U : Nat → Int} (h : Lv w lo hi t k a n c U) (hb : Below w.heap.size w w') : Lv w' lo hi t k a n c U := ⟨h.own.below hb, h.top, Nat.le_trans h.le hb.size⟩
theorem Lv.flat {w : World} {lo hi t k : Nat} {a : Option Addr} {n c : Nat} {U : Nat → Int} (h : Lv w lo hi t k a n c U) : Flat w a (n * k) U := h.own.flat
/-- another list is marked -/
theorem Lv.gr {w w' : World} {lo hi t k lo' hi' t' k' n' c' : Nat} {a' : Option Addr} {a : Option Addr} {n c : Nat} {U U' : Nat → Int} (h : Lv w lo hi t k a n c U) (h' : Lv w lo' hi' t' k' a' n' c' U') (hg : w.grownBy w' (Value.slice a' n' c').ownBlock) (hs : hi ≤ lo' ∨ hi' ≤ lo) : Lv w' lo hi t k a n c U := by
  refine ⟨?_, h.top, Nat.le_trans h.le hg.size⟩
  cases e : (Value.slice a n c).ownBlock with
  | none => exact h.own.kept hg (.inl e)
  | some b => exact h.own.kept hg (.inr (fun q => by
      have k1 := (h'.own.lt b (q ▸ e)).1
      have k1' := h'.top b (q ▸ e)
      have k2 := (h.own.lt b e).1
      have k3 := h.top b e
      omega))
/-- itself is marked -/
theorem Lv.me {w w' : World} {lo hi t k : Nat} {a : Option Addr} {n c : Nat} {U U' : Nat → Int} (h : Lv w lo hi t k a n c U) (hg : w.grownBy w' (Value.slice a n c).ownBlock) (ho : OwnL w' lo t k (.slice a n c) n U') : Lv w' lo hi t k a n c U' := ⟨ho, h.top, Nat.le_trans h.le hg.size⟩
/-- what lies below the first list -/
theorem Lv.below {w0 w w' : World} {lo hi t k B : Nat} {a : Option Addr} {n c : Nat} {U : Nat → Int} (h : Lv w lo hi t k a n c U) (hB : Below B w0 w) (hBw : B ≤ w.heap.size) (hg : w.grownBy w' (Value.slice a n c).ownBlock) (hl : B ≤ lo) : Below B w0 w' :=
  hB.grown hg hBw (fun b e => by have := (h.own.lt b e).1; omega)
theorem Lv.row {w w' : World} {b n t k : Nat} {U : Nat → Int} (h : Row w' b t (n * k) U) (hb : w.heap.size ≤ b) (hn : n ≤ 1048576) : Lv w' w.heap.size w'.heap.size t k (some ⟨b, 0, none⟩) n n U :=
  ⟨h.own hb (by unfold maxLen; omega), fun x e => by simp [Value.ownBlock] at e; subst e; exact h.lt, Nat.le_refl _⟩
/-- what a function hands out that makes a list -/
structure OutL (w w' : World) (t k : Nat) (a : Option Addr) (n c : Nat) (R : Nat → Int) : Prop where
  bel : Below w.heap.size w w'
  own : OwnL w' w.heap.size t k (.slice a n c) n R
theorem OutL.lv {w w' : World} {t k : Nat} {a : Option Addr} {n c : Nat} {R : Nat → Int} (h : OutL w w' t k a n c R) : Lv w' w.heap.size w'.heap.size t k a n c R := ⟨h.own, fun b e => (h.own.lt b e).2, Nat.le_refl _⟩
/-- a list's numbers -/
def ofL (l : List Int) : Nat → Int := fun q => l.getD q 0
theorem ofL_app (l x : List Int) (q : Nat) (h : q < l.length) : ofL (l ++ x) q = ofL l q := by
  unfold ofL
  rw [List.getD_eq_getElem?_getD, List.getD_eq_getElem?_getD, List.getElem?_append_left h]
theorem ofL_app' (l x : List Int) (q : Nat) (h : l.length ≤ q) : ofL (l ++ x) q = ofL x (q - l.length) := by
  unfold ofL
  rw [List.getD_eq_getElem?_getD, List.getD_eq_getElem?_getD, List.getElem?_append_right h]
theorem cat_ofL (l x : List Int) : cat l.length (ofL l) (ofL x) = ofL (l ++ x) := by
  funext q
  unfold cat
  by_cases h : q < l.length
  · rw [if_pos h, ofL_app l x q h]
  · rw [if_neg h, ofL_app' l x q (by omega)]
/-- APPEND of one thing of k numbers: where the list lies then -/
theorem step_appk {P : Program} {w : World} {ops : Array Oper} {o : Oper} {a : Act} {K : Act → World → Prop} {Q : Exit → Act → World → Prop} {E : Prop} (hgd : o.guard = none) (s x : Operand) (t : TypeId)
    (ho : o.op = .call { callee := .builtin .append, args := #[s, x], argTypes := #[t, t] })
    (base e k bytes : Nat) (z : Value) (ht : P.underlying t = some (.slice e)) (hinfo : (P.info? e).map (fun i => (i.zero, i.size, i.bytes)) = some (some z, k, bytes)) (hzs : z.cells.size = k) (hk : 0 < k)
    (v : Value) (n : Nat) (U : Nat → Int) (hs : a.eval s = v) (h : OwnL w base e k v n U) (B c : Nat) (X : Nat → Int) (hx : a.eval x = .slice (some ⟨B, 0, none⟩) 1 c) (hv : ∀ q, q < k → w.cell? ⟨B, q, none⟩ = some (.int .i64 (X q)))
    (h63 : n + 1 ≤ maxLen) (hbytes : (n + 1) * bytes ≤ 140737488355328) (hbase : base ≤ w.heap.size) (H : Nat) (hH : w.heap.size = H)
    (hK : ∀ g cap w', OwnL w' base e k (.slice (some ⟨g, 0, none⟩) (n + 1) cap) (n + 1) (cat (n * k) U X) → w.grownBy w' v.ownBlock → (v.ownBlock = some g ∨ g = H) → g < w'.heap.size → K (a.put o.dst (.slice (some ⟨g, 0, none⟩) (n + 1) cap)) w') :
    if Region.wanted o (yielded ops a.tmps) = true then Oper.wp P o a w K Q else E := by
  obtain ⟨i, hi, hzz⟩ := Option.map_eq_some_iff.1 hinfo
  simp only [Prod.mk.injEq] at hzz
  obtain ⟨hz, hsz, hby⟩ := hzz
  refine step_append_lies w hgd s x t ho base e i z k bytes ht hi hz hsz hby hzs hk v n (numL (n * k) U) hs h ⟨B, 0, none⟩ 1 c (numL (1 * k) X) hx (numL_len _ _) ?_ (fun u hu => by obtain ⟨q, _, rfl⟩ := List.mem_map.1 hu; rfl) (by omega) h63 hbytes hbase H hH ?_
  · intro j u hu
    have hj : j < 1 * k := by have := (List.getElem?_eq_some_iff.1 hu).1; rwa [numL_len] at this
    rw [numL_get hj] at hu
    rw [Addr.add_lit, Nat.zero_add, hv j (by omega)]
    exact hu
  · intro g cap w' h2 h3 h4 h5
    refine hK g cap w' ?_ h3 h4 h5
    unfold OwnL
    rw [Nat.add_mul, ← numL_cat]
    exact h2
end Go.Proofs.Ythekeeagjokpeaa
namespace Go.Proofs.Ythekeeagjokpeaa
open Go.RowKit
set_option linter.unusedVariables false
set_option linter.unusedSimpArgs false

abbrev pairW (V : Nat → Int) : Value := .agg #[.int .i64 (V 0), .int .i64 (V 1)]
theorem toPair_any (V : Nat → Int) (w : World) :
    Calls Try.prog 46 #[pairW V] w fun e w' => e = .returned (pairW V) ∧ Below w.heap.size w w' := by
  have hset := cset_map
  go_enter Try.func46, Try.ntmps46
  go_wp2
  exact bodyPost_ret (v := pairW V) (by simp [results, Try.results46, go_sem, *]) rfl ⟨rfl, by repeat (first | with_reducible apply Below.refl | (with_reducible apply Below.setCell; rotate_left; focus (first | omega | (simp; done) | (simp; omega))) | (with_reducible apply Below.alloc; rotate_left; focus (first | omega | (simp; done) | (simp; omega))) | with_reducible apply Below.drew | with_reducible apply belowDrewN | (with_reducible apply Below.trans; rotate_left; with_reducible apply Below.mono; with_reducible assumption; focus (first | omega | (simp; done) | (simp; omega))))⟩
theorem eqPair_same (V : Nat → Int) (w : World) :
    Calls Try.prog 59 #[pairW V, pairW V] w fun e w' => e = .returned (.bool true) ∧ Below w.heap.size w w' := by
  have hset := cset_map
  go_enter Try.func59, Try.ntmps59
  go_wp2
  go_ret
  exact ⟨rfl, by repeat (first | with_reducible apply Below.refl | (with_reducible apply Below.setCell; rotate_left; focus (first | omega | (simp; done) | (simp; omega))) | (with_reducible apply Below.alloc; rotate_left; focus (first | omega | (simp; done) | (simp; omega))) | with_reducible apply Below.drew | with_reducible apply belowDrewN | (with_reducible apply Below.trans; rotate_left; with_reducible apply Below.mono; with_reducible assumption; focus (first | omega | (simp; done) | (simp; omega))))⟩
theorem szPairS_any (a : Option Addr) (n c l : Nat) (w : World) (hn : (n : Int) ≤ 9223372036854775807) (hl : l ≤ 1048576) :
    Calls Try.prog 17 #[.slice a n c, .int .i64 (l : Int)] w fun e w' => e = .returned (.int .i64 (if n ≤ l then (l : Int) - (n : Int) else -1)) ∧ w' = w := by
  by_cases h : n ≤ l
  · have h1 : ¬ ((l : Int) - (n : Int) < 0) := by omega
    have h2 : IntKind.i64.wrap ((l : Int) - (n : Int)) = (l : Int) - (n : Int) := i64w (by omega)
    go_enter Try.func17, Try.ntmps17
    go_wp2
    go_ret
    exact ⟨by first | rfl | (rw [if_pos h]; rfl) | simp [h], rfl⟩
  · have h1 : ((l : Int) - (n : Int) < 0) := by omega
    have h2 : IntKind.i64.wrap ((l : Int) - (n : Int)) = (l : Int) - (n : Int) := i64w (by omega)
    go_enter Try.func17, Try.ntmps17
    go_wp2
    go_ret
    exact ⟨by first | rfl | (rw [if_neg h]; rfl) | simp [h], rfl⟩
abbrev zeroPair : Value := .agg #[.int .i64 0, .int .i64 0]
theorem makePairS (n : Nat) (hn : n ≤ 1048576) (w : World) : (Instr.makeSlice 34 (.int .i64 (n : Int)) (.int .i64 (n : Int))).run Try.prog w = .ok (.slice (some ⟨w.heap.size, 0, none⟩) n n) (w.alloc (.cells (madeCells zeroPair.cells (n * 2)) 73)) :=
  make_rows _ _ zeroPair 2 16 Try.underlying34 (by kernel_rfl) _ _ n (by omega) (by omega) w
set_option maxRecDepth 20000 in
set_option maxHeartbeats 2000000 in
theorem toPairS_any (a : Option Addr) (n c : Nat) (U : Nat → Int) (w : World) (h : Flat w a (n * 2) U) (hn : n ≤ 1048576) :
    Calls Try.prog 23 #[.slice a n c] w fun e w' => ∃ b, e = .returned (.slice (some ⟨b, 0, none⟩) n n) ∧ w.heap.size ≤ b ∧ Row w' b 73 (n * 2) U ∧ Below w.heap.size w w' := by
  have hmk := makePairS n hn
  go_enter Try.func23, Try.ntmps23
  go_wp2
  clear hmk
  go_loopw [4] (fun i wr => ∃ k : Nat, k ≤ n ∧ i = .int .i64 (k : Int) ∧ Row wr w.heap.size 73 (n * 2) (upto (k * 2) U) ∧ Below w.heap.size w wr) (fun i _ => n - (intOf i).toNat)
  case atStart => exact ⟨0, Nat.zero_le _, rfl, (Row.madek w _ 2 _ _ rfl (by decide) U).cut (by omega), (Below.refl _ _).alloc (Nat.le_refl _) _⟩
  case round =>
    obtain ⟨k, hk, rfl, hr, hbel⟩ := hrel
    have hrl := hr.lt
    by_cases hlt : k < n
    · obtain ⟨b, o, rfl, hbl, hc⟩ := (h.below hbel) (by omega)
      have c0 := hc (k * 2) (by omega)
      have c1 := hc (k * 2 + 1) (by omega)
      simp only [← Nat.add_assoc] at c0 c1
      clear hc h
      go_wp2_with (go_at_call 46; refine (toPair_any (fun j => U (k * 2 + j)) _).mono ?_; rintro e w1 ⟨rfl, hb1⟩; have hr1 := hr.below hb1; have f1 := hr1.fro; (have e0 := hr1.cell (q := k * 2) (by omega)); (have e1 := hr1.cell (q := k * 2 + 1) (by omega)))
      go_roundw
      case rel => exact ⟨k + 1, by omega, by go_num, (((hr1).next).next).cut (by omega), by repeat (first | with_reducible apply Below.refl | (with_reducible apply Below.setCell; rotate_left; focus (first | omega | (simp; done) | (simp; omega))) | (with_reducible apply Below.alloc; rotate_left; focus (first | omega | (simp; done) | (simp; omega))) | with_reducible apply Below.drew | with_reducible apply belowDrewN | (with_reducible apply Below.trans; rotate_left; with_reducible apply Below.mono; with_reducible assumption; focus (first | omega | (simp; done) | (simp; omega))))⟩
      case measure => simp [intOf]; omega
    · go_wp2
      go_ret
      exact ⟨_, rfl, Nat.le_refl _, hr.full (by omega), hbel⟩
set_option maxRecDepth 20000 in
set_option maxHeartbeats 2000000 in
theorem eqPairS_same (a a' : Option Addr) (n c c' : Nat) (U : Nat → Int) (w : World) (h : Flat w a (n * 2) U) (h' : Flat w a' (n * 2) U) (hn : n ≤ 1048576) :
    Calls Try.prog 31 #[.slice a n c, .slice a' n c'] w fun e w' => e = .returned (.bool true) ∧ Below w.heap.size w w' := by
  have hset := cset_map
  go_enter Try.func31, Try.ntmps31
  go_wp2
  go_loopw [5] (fun i wr => ∃ k : Nat, k ≤ n ∧ i = .int .i64 (k : Int) ∧ Below w.heap.size w wr) (fun i _ => n - (intOf i).toNat)
  case atStart => exact ⟨0, Nat.zero_le _, rfl, Below.refl _ _⟩
  case round =>
    obtain ⟨k, hk, rfl, hB⟩ := hrel
    by_cases hlt : k < n
    · have hkn : (k : Int) < (n : Int) := by omega
      obtain ⟨b, o, rfl, hbl, hc⟩ := (h.below hB) (by omega)
      obtain ⟨b', o', rfl, hbl', hc'⟩ := (h'.below hB) (by omega)
      have c0 := hc (k * 2) (by omega)
      have d0 := hc' (k * 2) (by omega)
      have c1 := hc (k * 2 + 1) (by omega)
      have d1 := hc' (k * 2 + 1) (by omega)
      simp only [← Nat.add_assoc, Nat.add_zero] at c0 d0 c1 d1
      clear hc hc' h h'
      go_upto_region 6 with fail
      refine wp_region_held_drew (S := fun w' => w'.cell? ⟨b, o + k * 2, none⟩ = some (.int .i64 (U (k * 2))) ∧ w'.cell? ⟨b, o + k * 2 + 1, none⟩ = some (.int .i64 (U (k * 2 + 1))) ∧ w'.cell? ⟨b', o' + k * 2, none⟩ = some (.int .i64 (U (k * 2))) ∧ w'.cell? ⟨b', o' + k * 2 + 1, none⟩ = some (.int .i64 (U (k * 2 + 1)))) (by kernel_rfl) ?_ (fun hHeld => ?_)
      · (try dsimp only)
        (first | (go_simp; done) | (go_keep; done))
      refine tq 0 hHeld ?_
      refine tq 1 hHeld ?_
      refine tq 2 hHeld ?_
      refine tq 3 hHeld ?_
      refine tq 4 hHeld ?_
      refine tq 5 hHeld ?_
      refine tq 6 hHeld ?_
      refine tq 7 hHeld ?_
      (refine tc 8 fun K hK => ?_; go_simp; (go_at_call 59; refine (eqPair_same (fun j => U (k * 2 + j)) _).mono ?_; rintro e w1 ⟨rfl, hb1⟩; obtain ⟨hc1, hf1⟩ := bcell hb1; have hz1 := hb1.size; (try simp only [World.size_drew, World.size_alloc, World.size_setCell] at hc1 hf1 hz1); have hk1 := fun o => hc1 b o (by omega); have hk2 := fun o => hc1 b' o (by omega); clear hc1 hf1); (try go_wp2_with fail); refine tr hK (fun hHeld => ?_); clear hK K)
      refine tq 9 hHeld ?_
      refine wpAnyH_done (by kernel_rfl) ?_ _
      go_wp2_with fail
      go_roundw
      case rel => exact ⟨k + 1, by omega, by go_num, hB.trans (hb1.ofDr.mono hB.size)⟩
      case measure => simp [intOf]; omega
    · go_wp2
      go_ret
      exact ⟨rfl, hB⟩

abbrev worldW (T P : Int) (a : Option Addr) (n c : Nat) (a' : Option Addr) (m c' : Nat) : Value := .agg #[.int .i64 T, .int .i64 P, .slice a n c, .slice a' m c']
set_option maxRecDepth 20000 in
set_option maxHeartbeats 2000000 in
theorem szWorld_any (T P : Int) (a : Option Addr) (n c : Nat) (a' : Option Addr) (m c' : Nat) (w : World) (hn : (n : Int) ≤ 9223372036854775807) (hm : (m : Int) ≤ 9223372036854775807) :
    Calls Try.prog 5 #[worldW T P a n c a' m c', .int .i64 1048576] w fun e w' => (∃ z : Int, e = .returned (.int .i64 z) ∧ (0 ≤ z ↔ n + m ≤ 1048576) ∧ z ≤ 1048576 ∧ -1 ≤ z) ∧ Below w.heap.size w w' := by
  have hset := cset_map
  by_cases h1 : n ≤ 1048576
  · obtain ⟨l, hl⟩ : ∃ l : Nat, l + n = 1048576 := ⟨1048576 - n, by omega⟩
    have hl' : (1048576 : Int) - (n : Int) = (l : Int) := by omega
    have hge : ¬ ((l : Int) < 0) := by omega
    by_cases h2 : m ≤ l
    · have h3 : ¬ ((l : Int) - (m : Int) < 0) := by omega
      go_enter Try.func5, Try.ntmps5
      go_wp2_with (first
        | (go_at_call 16; refine (szBodyS_any _ _ _ _ hn).mono ?_; rw [if_pos h1, hl']; rintro e w1 ⟨rfl, rfl⟩)
        | (go_at_call 17; refine (szPairS_any _ _ _ l _ hm (by omega)).mono ?_; rw [if_pos h2]; rintro e w2 ⟨rfl, rfl⟩))
      go_ret
      exact ⟨⟨_, rfl, by omega, by omega, by omega⟩, by repeat (first | with_reducible apply Below.refl | (with_reducible apply Below.setCell; rotate_left; focus (first | omega | (simp; done) | (simp; omega))) | (with_reducible apply Below.alloc; rotate_left; focus (first | omega | (simp; done) | (simp; omega))) | with_reducible apply Below.drew | with_reducible apply belowDrewN | (with_reducible apply Below.trans; rotate_left; with_reducible apply Below.mono; with_reducible assumption; focus (first | omega | (simp; done) | (simp; omega))))⟩
    · go_enter Try.func5, Try.ntmps5
      go_wp2_with (first
        | (go_at_call 16; refine (szBodyS_any _ _ _ _ hn).mono ?_; rw [if_pos h1, hl']; rintro e w1 ⟨rfl, rfl⟩)
        | (go_at_call 17; refine (szPairS_any _ _ _ l _ hm (by omega)).mono ?_; rw [if_neg h2]; rintro e w2 ⟨rfl, rfl⟩))
      go_ret
      exact ⟨⟨_, rfl, by omega, by omega, by omega⟩, by repeat (first | with_reducible apply Below.refl | (with_reducible apply Below.setCell; rotate_left; focus (first | omega | (simp; done) | (simp; omega))) | (with_reducible apply Below.alloc; rotate_left; focus (first | omega | (simp; done) | (simp; omega))) | with_reducible apply Below.drew | with_reducible apply belowDrewN | (with_reducible apply Below.trans; rotate_left; with_reducible apply Below.mono; with_reducible assumption; focus (first | omega | (simp; done) | (simp; omega))))⟩
  · go_enter Try.func5, Try.ntmps5
    go_wp2_with (go_at_call 16; refine (szBodyS_any _ _ _ _ hn).mono ?_; rw [if_neg h1]; rintro e w1 ⟨rfl, rfl⟩)
    go_ret
    exact ⟨⟨_, rfl, by omega, by omega, by omega⟩, by repeat (first | with_reducible apply Below.refl | (with_reducible apply Below.setCell; rotate_left; focus (first | omega | (simp; done) | (simp; omega))) | (with_reducible apply Below.alloc; rotate_left; focus (first | omega | (simp; done) | (simp; omega))) | with_reducible apply Below.drew | with_reducible apply belowDrewN | (with_reducible apply Below.trans; rotate_left; with_reducible apply Below.mono; with_reducible assumption; focus (first | omega | (simp; done) | (simp; omega))))⟩
set_option maxRecDepth 20000 in
set_option maxHeartbeats 2000000 in
theorem toWorld_any (T P : Int) (a : Option Addr) (n c : Nat) (U : Nat → Int) (a' : Option Addr) (m c' : Nat) (Q : Nat → Int) (w : World) (h : Flat w a (n * 12) U) (h' : Flat w a' (m * 2) Q) (hn : n ≤ 1048576) (hm : m ≤ 1048576) :
    Calls Try.prog 7 #[worldW T P a n c a' m c'] w fun e w' => ∃ b b' s, e = .returned (worldW T P (some ⟨b, 0, none⟩) n n (some ⟨b', 0, none⟩) m m) ∧ w.heap.size ≤ b ∧ b < s ∧ s ≤ b' ∧ b' < w'.heap.size ∧ Row w' b 43 (n * 12) U ∧ Row w' b' 73 (m * 2) Q ∧ Below w.heap.size w w' := by
  have hset := cset_map
  go_enter Try.func7, Try.ntmps7
  go_upto_region 4 with fail
  go_cut [] (fun wc => ∃ b, w.heap.size + 1 + 1 < b ∧ Row wc b 43 (n * 12) U ∧ Below w.heap.size w wc ∧ wc.cell? ⟨w.heap.size, 3, none⟩ = some (.slice a' m c') ∧ wc.cell? ⟨w.heap.size + 1 + 1, 0, none⟩ = some (.int .i64 T) ∧ wc.cell? ⟨w.heap.size + 1 + 1, 1, none⟩ = some (.int .i64 P) ∧ wc.cell? ⟨w.heap.size + 1 + 1, 2, none⟩ = some (.slice (some ⟨b, 0, none⟩) n n) ∧ wc.cell? ⟨w.heap.size + 1 + 1, 3, none⟩ = some (.slice none 0 0) ∧ (∀ o, wc.frozen? ⟨w.heap.size + 1 + 1, o, none⟩ = false) ∧ (∀ o, wc.frozen? ⟨w.heap.size + 1, o, none⟩ = false) ∧ wc.cell? ⟨w.heap.size + 1, 0, none⟩ = some (.int .i64 0) ∧ wc.cell? ⟨w.heap.size + 1, 1, none⟩ = some (.int .i64 0) ∧ wc.cell? ⟨w.heap.size + 1, 2, none⟩ = some (.slice none 0 0) ∧ wc.cell? ⟨w.heap.size + 1, 3, none⟩ = some (.slice none 0 0))
  case first =>
    go_wp2_with (go_at_call 22; refine (toBodyS_any a n c U _ (h.below (by repeat (first | with_reducible apply Below.refl | (with_reducible apply Below.setCell; rotate_left; focus (first | omega | (simp; done) | (simp; omega))) | (with_reducible apply Below.alloc; rotate_left; focus (first | omega | (simp; done) | (simp; omega))) | with_reducible apply Below.drew | with_reducible apply belowDrewN | (with_reducible apply Below.trans; rotate_left; with_reducible apply Below.mono; with_reducible assumption; focus (first | omega | (simp; done) | (simp; omega)))))) hn).mono ?_; rintro e w1 ⟨b, rfl, hl1, hr1, hb1⟩; obtain ⟨hc1, hf1⟩ := bcell hb1; have hz1 := hb1.size; (try simp only [World.size_drew, World.size_alloc, World.size_setCell] at hc1 hf1 hz1 hl1); have hk1x0 := fun o => hc1 (w.heap.size) o (by omega); have hj1x0 := fun o => hf1 (w.heap.size) o (by omega); have hq1x0 : w.heap.size < w1.heap.size := (by omega); have hk1x1 := fun o => hc1 (w.heap.size + 1) o (by omega); have hj1x1 := fun o => hf1 (w.heap.size + 1) o (by omega); have hq1x1 : w.heap.size + 1 < w1.heap.size := (by omega); have hk1x2 := fun o => hc1 (w.heap.size + 1 + 1) o (by omega); have hj1x2 := fun o => hf1 (w.heap.size + 1 + 1) o (by omega); have hq1x2 : w.heap.size + 1 + 1 < w1.heap.size := (by omega); clear hc1 hf1; have hrl := hr1.lt)
    go_meet
    exact ⟨b, by omega, hr1.setO (by simp; omega) _, by repeat (first | with_reducible apply Below.refl | (with_reducible apply Below.setCell; rotate_left; focus (first | omega | (simp; done) | (simp; omega))) | (with_reducible apply Below.alloc; rotate_left; focus (first | omega | (simp; done) | (simp; omega))) | with_reducible apply Below.drew | with_reducible apply belowDrewN | (with_reducible apply Below.trans; rotate_left; with_reducible apply Below.mono; with_reducible assumption; focus (first | omega | (simp; done) | (simp; omega)))), by go_simp, by go_simp, by go_simp, by go_simp, by go_simp, by intro o; go_simp, by intro o; go_simp, by go_simp, by go_simp, by go_simp, by go_simp⟩
  case rest =>
  obtain ⟨b, hb0, hr, hB, c0, c1, c2, c3, c4, f0, f1, d0, d1, d2, d3⟩ := hcut
  have hzc := hr.lt
  go_wp2_with (go_at_call 23; refine (toPairS_any a' m c' Q _ (h'.below hB) hm).mono ?_; rintro e w2 ⟨b', rfl, hl2, hr2, hb2⟩; have hrb := hr.below hb2; obtain ⟨hc2, hf2⟩ := bcell hb2; have hz2 := hb2.size; have hk2x0 := fun o => hc2 (w.heap.size) o (by omega); have hj2x0 := fun o => hf2 (w.heap.size) o (by omega); have hq2x0 : w.heap.size < w2.heap.size := (by omega); have hk2x1 := fun o => hc2 (w.heap.size + 1) o (by omega); have hj2x1 := fun o => hf2 (w.heap.size + 1) o (by omega); have hq2x1 : w.heap.size + 1 < w2.heap.size := (by omega); have hk2x2 := fun o => hc2 (w.heap.size + 1 + 1) o (by omega); have hj2x2 := fun o => hf2 (w.heap.size + 1 + 1) o (by omega); have hq2x2 : w.heap.size + 1 + 1 < w2.heap.size := (by omega); clear hc2 hf2; have hrl2 := hr2.lt)
  refine bodyPost_ret (v := worldW T P (some ⟨b, 0, none⟩) n n (some ⟨b', 0, none⟩) m m) (by simp [results, Try.results7, go_sem, *]) rfl ⟨b, b', wc.heap.size, rfl, by omega, hzc, hl2, by simp; omega, ?_, ?_, ?_⟩
  · exact ((((hrb.setO (by simp; omega) _).setO (by simp; omega) _).setO (by simp; omega) _).setO (by simp; omega) _).setO (by simp; omega) _
  · exact ((((hr2.setO (by simp; omega) _).setO (by simp; omega) _).setO (by simp; omega) _).setO (by simp; omega) _).setO (by simp; omega) _
  · have hBB := hB.trans (hb2.mono hB.size)
    repeat (first | with_reducible apply Below.refl | (with_reducible apply Below.setCell; rotate_left; focus (first | omega | (simp; done) | (simp; omega))) | (with_reducible apply Below.alloc; rotate_left; focus (first | omega | (simp; done) | (simp; omega))) | with_reducible apply Below.drew | with_reducible apply belowDrewN | (with_reducible apply Below.trans; rotate_left; with_reducible apply Below.mono; with_reducible assumption; focus (first | omega | (simp; done) | (simp; omega))))
set_option maxHeartbeats 2000000 in
theorem eqWorld_same (T P : Int) (a b : Option Addr) (n c d : Nat) (U : Nat → Int) (a' b' : Option Addr) (m c' d' : Nat) (Q : Nat → Int) (w : World) (h : Flat w a (n * 12) U) (k : Flat w b (n * 12) U) (h' : Flat w a' (m * 2) Q) (k' : Flat w b' (m * 2) Q) (hn : n ≤ 1048576) (hm : m ≤ 1048576) :
    Calls Try.prog 10 #[worldW T P a n c a' m c', worldW T P b n d b' m d'] w fun e w' => e = .returned (.bool true) ∧ Below w.heap.size w w' := by
  have hset := cset_map
  have hE : Below w.heap.size w ((w.alloc (.cells #[.int .i64 T, .int .i64 P, .slice a n c, .slice a' m c'] 36)).alloc (.cells #[.int .i64 T, .int .i64 P, .slice b n d, .slice b' m d'] 36)) := ((Below.refl _ _).alloc (Nat.le_refl _) _).alloc (by simp) _
  go_enter Try.func10, Try.ntmps10
  go_wp2_with (first
    | (go_at_call 30; refine (eqBodyS_same _ _ _ _ _ U _ (h.below hE) (k.below hE) hn).mono ?_; rintro e w1 ⟨rfl, hb1⟩; obtain ⟨hc1, hf1⟩ := bcell hb1; have hz1 := hb1.size; (try simp only [World.size_drew, World.size_alloc, World.size_setCell] at hc1 hf1 hz1); have hE1 := hE.trans (hb1.mono (by simp; omega)); have hk1x0 := fun o => hc1 (w.heap.size) o (by omega); have hj1x0 := fun o => hf1 (w.heap.size) o (by omega); have hq1x0 : w.heap.size < w1.heap.size := (by omega); have hk1x1 := fun o => hc1 (w.heap.size + 1) o (by omega); have hj1x1 := fun o => hf1 (w.heap.size + 1) o (by omega); have hq1x1 : w.heap.size + 1 < w1.heap.size := (by omega); clear hc1 hf1)
    | (go_at_call 31; refine (eqPairS_same _ _ _ _ _ Q _ (h'.below hE1) (k'.below hE1) hm).mono ?_; rintro e w2 ⟨rfl, hb2⟩; obtain ⟨hc2, hf2⟩ := bcell hb2; have hz2 := hb2.size; (try simp only [World.size_drew, World.size_alloc, World.size_setCell] at hc2 hf2 hz2); clear hc2 hf2))
  go_ret
  exact ⟨rfl, hE1.trans (hb2.mono (by have := hE1.size; omega))⟩
end Go.Proofs.Ythekeeagjokpeaa
namespace Go.Proofs.Ythekeeagjokpeaa
open Go.RowKit
set_option linter.unusedVariables false
set_option linter.unusedSimpArgs false

set_option maxRecDepth 20000 in
set_option maxHeartbeats 4000000 in
theorem sBodiesOk_any (a : Option Addr) (n c : Nat) (U : Nat → Int) (w : World) (h : Flat w a (n * 12) U) (hn : n ≤ 1048576) :
    Calls Try.prog 41 #[.slice a n c] w fun e w' => e = .returned (.bool (bodsB n U)) ∧ Below w.heap.size w w' := by
  have hset := cset_map
  go_enter Try.func41, Try.ntmps41
  go_wp2
  go_loopw [3] (fun i wr => ∃ k : Nat, k ≤ n ∧ i = .int .i64 (k : Int) ∧ Below w.heap.size w wr ∧ allBB U k = true) (fun i _ => n - (intOf i).toNat)
  case atStart => exact ⟨0, Nat.zero_le _, rfl, Below.refl _ _, rfl⟩
  case round =>
      obtain ⟨k, hk, rfl, hB, hall0⟩ := hrel
      have hall : Shut (allBB U k = true) := hall0
      clear hall0
      by_cases hlt : k < n
      · have hkn : (k : Int) < (n : Int) := by omega
        obtain ⟨b, o, rfl, hbl, hc⟩ := (h.below hB) (by omega)
        have c0 := hc (k * 12) (by omega)
        have c1 := hc (k * 12 + 1) (by omega)
        have c2 := hc (k * 12 + 2) (by omega)
        have c3 := hc (k * 12 + 3) (by omega)
        have c4 := hc (k * 12 + 4) (by omega)
        have c5 := hc (k * 12 + 5) (by omega)
        have c6 := hc (k * 12 + 6) (by omega)
        have c7 := hc (k * 12 + 7) (by omega)
        have c8 := hc (k * 12 + 8) (by omega)
        have c9 := hc (k * 12 + 9) (by omega)
        have c10 := hc (k * 12 + 10) (by omega)
        have c11 := hc (k * 12 + 11) (by omega)
        simp only [← Nat.add_assoc] at c0 c1 c2 c3 c4 c5 c6 c7 c8 c9 c10 c11
        go_upto_region 4 with fail
        cases hi : bodyB (fun j => U (k * 12 + j)) with
        | false =>
          have hno : Shut (stepBB U k = false) := by show stepBB U k = false; rw [stepBB, hi]; rfl
          clear hc
          refine wp_region_held_drew (S := fun w' => w'.cell? ⟨b, o + k * 12, none⟩ = some (.int .i64 (U (k * 12))) ∧ w'.cell? ⟨b, o + k * 12 + 1, none⟩ = some (.int .i64 (U (k * 12 + 1))) ∧ w'.cell? ⟨b, o + k * 12 + 2, none⟩ = some (.int .i64 (U (k * 12 + 2))) ∧ w'.cell? ⟨b, o + k * 12 + 3, none⟩ = some (.int .i64 (U (k * 12 + 3))) ∧ w'.cell? ⟨b, o + k * 12 + 4, none⟩ = some (.int .i64 (U (k * 12 + 4))) ∧ w'.cell? ⟨b, o + k * 12 + 5, none⟩ = some (.int .i64 (U (k * 12 + 5))) ∧ w'.cell? ⟨b, o + k * 12 + 6, none⟩ = some (.int .i64 (U (k * 12 + 6))) ∧ w'.cell? ⟨b, o + k * 12 + 7, none⟩ = some (.int .i64 (U (k * 12 + 7))) ∧ w'.cell? ⟨b, o + k * 12 + 8, none⟩ = some (.int .i64 (U (k * 12 + 8))) ∧ w'.cell? ⟨b, o + k * 12 + 9, none⟩ = some (.int .i64 (U (k * 12 + 9))) ∧ w'.cell? ⟨b, o + k * 12 + 10, none⟩ = some (.int .i64 (U (k * 12 + 10))) ∧ w'.cell? ⟨b, o + k * 12 + 11, none⟩ = some (.int .i64 (U (k * 12 + 11)))) (by kernel_rfl) ?_ (fun hHeld => ?_)
          · (try dsimp only)
            (first | (go_simp; done) | (go_keep; done))
          refine tq 0 hHeld ?_
          refine tq 1 hHeld ?_
          refine tq 2 hHeld ?_
          refine tq 3 hHeld ?_
          (refine tc 4 fun K hK => ?_; go_simp; (go_at_call 20; refine (sBodyOk_q (fun j => U (k * 12 + j)) _ _ (by exact hi)).mono ?_; rintro e w2 ⟨rfl, hb2⟩; obtain ⟨hc2, hf2⟩ := bcell hb2; have hz2 := hb2.size; (try simp only [World.size_drew, World.size_alloc, World.size_setCell] at hc2 hf2 hz2); have hk3 := fun o => hc2 b o (by omega); clear hc2 hf2); (try go_wp2_with fail); refine tr hK (fun hHeld => ?_); clear hK K)
          refine tq 5 hHeld ?_
          refine tq 6 hHeld ?_
          refine tn 7 hHeld ?_
          refine tn 8 hHeld ?_
          refine tn 9 hHeld ?_
          refine tn 10 hHeld ?_
          refine tn 11 hHeld ?_
          refine tn 12 hHeld ?_
          refine tn 13 hHeld ?_
          refine tn 14 hHeld ?_
          refine tn 15 hHeld ?_
          refine tn 16 hHeld ?_
          refine tn 17 hHeld ?_
          refine tn 18 hHeld ?_
          refine tn 19 hHeld ?_
          refine tn 20 hHeld ?_
          refine tn 21 hHeld ?_
          refine tn 22 hHeld ?_
          refine tq 23 hHeld ?_
          refine wpAnyH_done (by kernel_rfl) ?_ _
          go_wp2_with fail
          go_ret
          exact ⟨by rw [bodsB, allBB_no hno.out n hlt, Bool.and_false]; rfl, hB.trans (hb2.ofDr.mono hB.size)⟩
        | true =>
          by_cases hk0 : 0 < k
          · have hd0 : decide (0 < k) = true := decide_eq_true hk0
            obtain ⟨j, hj⟩ : ∃ j, j + 1 = k := ⟨k - 1, by omega⟩
            have hj' : (k : Int) - 1 = (j : Int) := by omega
            have hjn : j < n := by omega
            have hwj : IntKind.i64.wrap (j : Int) = (j : Int) := i64w (by omega)
            have HJ : Shut (j + 1 = k) := hj
            clear hj
            have p0 := hc (j * 12) (by omega)
            clear hc
            by_cases hge : U (j * 12) < U (k * 12)
            · have hdg : decide (U (k * 12) ≤ U (j * 12)) = false := decide_eq_false (by omega)
              have hyes : Shut (stepBB U k = true) := by show stepBB U k = true; rw [stepBB, hi, show k - 1 = j from by have := HJ.out; omega]; simp [hge]
              refine wp_region_held_drew (S := fun w' => w'.cell? ⟨b, o + k * 12, none⟩ = some (.int .i64 (U (k * 12))) ∧ w'.cell? ⟨b, o + k * 12 + 1, none⟩ = some (.int .i64 (U (k * 12 + 1))) ∧ w'.cell? ⟨b, o + k * 12 + 2, none⟩ = some (.int .i64 (U (k * 12 + 2))) ∧ w'.cell? ⟨b, o + k * 12 + 3, none⟩ = some (.int .i64 (U (k * 12 + 3))) ∧ w'.cell? ⟨b, o + k * 12 + 4, none⟩ = some (.int .i64 (U (k * 12 + 4))) ∧ w'.cell? ⟨b, o + k * 12 + 5, none⟩ = some (.int .i64 (U (k * 12 + 5))) ∧ w'.cell? ⟨b, o + k * 12 + 6, none⟩ = some (.int .i64 (U (k * 12 + 6))) ∧ w'.cell? ⟨b, o + k * 12 + 7, none⟩ = some (.int .i64 (U (k * 12 + 7))) ∧ w'.cell? ⟨b, o + k * 12 + 8, none⟩ = some (.int .i64 (U (k * 12 + 8))) ∧ w'.cell? ⟨b, o + k * 12 + 9, none⟩ = some (.int .i64 (U (k * 12 + 9))) ∧ w'.cell? ⟨b, o + k * 12 + 10, none⟩ = some (.int .i64 (U (k * 12 + 10))) ∧ w'.cell? ⟨b, o + k * 12 + 11, none⟩ = some (.int .i64 (U (k * 12 + 11))) ∧ w'.cell? ⟨b, o + j * 12, none⟩ = some (.int .i64 (U (j * 12)))) (by kernel_rfl) ?_ (fun hHeld => ?_)
              · (try dsimp only)
                (first | (go_simp; done) | (go_keep; done))
              refine tq 0 hHeld ?_
              refine tq 1 hHeld ?_
              refine tq 2 hHeld ?_
              refine tq 3 hHeld ?_
              (refine tc 4 fun K hK => ?_; go_simp; (go_at_call 20; refine (sBodyOk_q (fun j => U (k * 12 + j)) _ _ (by exact hi)).mono ?_; rintro e w2 ⟨rfl, hb2⟩; obtain ⟨hc2, hf2⟩ := bcell hb2; have hz2 := hb2.size; (try simp only [World.size_drew, World.size_alloc, World.size_setCell] at hc2 hf2 hz2); have hk3 := fun o => hc2 b o (by omega); clear hc2 hf2); (try go_wp2_with fail); refine tr hK (fun hHeld => ?_); clear hK K)
              refine tq 5 hHeld ?_
              refine tq 6 hHeld ?_
              refine tq 7 hHeld ?_
              refine tq 8 hHeld ?_
              refine tq 9 hHeld ?_
              refine tq 10 hHeld ?_
              refine tq 11 hHeld ?_
              refine tq 12 hHeld ?_
              refine tq 13 hHeld ?_
              refine tq 14 hHeld ?_
              refine tq 15 hHeld ?_
              refine tq 16 hHeld ?_
              refine tq 17 hHeld ?_
              refine tq 18 hHeld ?_
              refine tq 19 hHeld ?_
              refine tq 20 hHeld ?_
              refine tq 21 hHeld ?_
              refine tq 22 hHeld ?_
              refine tq 23 hHeld ?_
              refine wpAnyH_done (by kernel_rfl) ?_ _
              go_wp2_with fail
              go_roundw
              case rel => exact ⟨k + 1, by omega, by go_num, hB.trans (hb2.ofDr.mono hB.size), by rw [allBB, hall.out, hyes.out]; rfl⟩
              case measure => simp [intOf]; omega
            · have hdg : decide (U (k * 12) ≤ U (j * 12)) = true := decide_eq_true (by omega)
              have hno : Shut (stepBB U k = false) := by show stepBB U k = false; rw [stepBB, show k - 1 = j from by have := HJ.out; omega]; have := HJ.out; simp [hge]; omega
              refine wp_region_held_drew (S := fun w' => w'.cell? ⟨b, o + k * 12, none⟩ = some (.int .i64 (U (k * 12))) ∧ w'.cell? ⟨b, o + k * 12 + 1, none⟩ = some (.int .i64 (U (k * 12 + 1))) ∧ w'.cell? ⟨b, o + k * 12 + 2, none⟩ = some (.int .i64 (U (k * 12 + 2))) ∧ w'.cell? ⟨b, o + k * 12 + 3, none⟩ = some (.int .i64 (U (k * 12 + 3))) ∧ w'.cell? ⟨b, o + k * 12 + 4, none⟩ = some (.int .i64 (U (k * 12 + 4))) ∧ w'.cell? ⟨b, o + k * 12 + 5, none⟩ = some (.int .i64 (U (k * 12 + 5))) ∧ w'.cell? ⟨b, o + k * 12 + 6, none⟩ = some (.int .i64 (U (k * 12 + 6))) ∧ w'.cell? ⟨b, o + k * 12 + 7, none⟩ = some (.int .i64 (U (k * 12 + 7))) ∧ w'.cell? ⟨b, o + k * 12 + 8, none⟩ = some (.int .i64 (U (k * 12 + 8))) ∧ w'.cell? ⟨b, o + k * 12 + 9, none⟩ = some (.int .i64 (U (k * 12 + 9))) ∧ w'.cell? ⟨b, o + k * 12 + 10, none⟩ = some (.int .i64 (U (k * 12 + 10))) ∧ w'.cell? ⟨b, o + k * 12 + 11, none⟩ = some (.int .i64 (U (k * 12 + 11))) ∧ w'.cell? ⟨b, o + j * 12, none⟩ = some (.int .i64 (U (j * 12)))) (by kernel_rfl) ?_ (fun hHeld => ?_)
              · (try dsimp only)
                (first | (go_simp; done) | (go_keep; done))
              refine tq 0 hHeld ?_
              refine tq 1 hHeld ?_
              refine tq 2 hHeld ?_
              refine tq 3 hHeld ?_
              (refine tc 4 fun K hK => ?_; go_simp; (go_at_call 20; refine (sBodyOk_q (fun j => U (k * 12 + j)) _ _ (by exact hi)).mono ?_; rintro e w2 ⟨rfl, hb2⟩; obtain ⟨hc2, hf2⟩ := bcell hb2; have hz2 := hb2.size; (try simp only [World.size_drew, World.size_alloc, World.size_setCell] at hc2 hf2 hz2); have hk3 := fun o => hc2 b o (by omega); clear hc2 hf2); (try go_wp2_with fail); refine tr hK (fun hHeld => ?_); clear hK K)
              refine tq 5 hHeld ?_
              refine tq 6 hHeld ?_
              refine tq 7 hHeld ?_
              refine tq 8 hHeld ?_
              refine tq 9 hHeld ?_
              refine tq 10 hHeld ?_
              refine tq 11 hHeld ?_
              refine tq 12 hHeld ?_
              refine tq 13 hHeld ?_
              refine tq 14 hHeld ?_
              refine tq 15 hHeld ?_
              refine tq 16 hHeld ?_
              refine tq 17 hHeld ?_
              refine tq 18 hHeld ?_
              refine tq 19 hHeld ?_
              refine tq 20 hHeld ?_
              refine tq 21 hHeld ?_
              refine tq 22 hHeld ?_
              refine tq 23 hHeld ?_
              refine wpAnyH_done (by kernel_rfl) ?_ _
              go_wp2_with fail
              go_ret
              exact ⟨by rw [bodsB, allBB_no hno.out n hlt, Bool.and_false]; rfl, hB.trans (hb2.ofDr.mono hB.size)⟩
          · have hd0 : decide (0 < k) = false := decide_eq_false hk0
            have HK : Shut (k = 0) := (by omega : k = 0)
            clear hk0 hc
            have hyes : Shut (stepBB U k = true) := by show stepBB U k = true; rw [stepBB, hi, HK.out]; rfl
            refine wp_region_held_drew (S := fun w' => w'.cell? ⟨b, o + k * 12, none⟩ = some (.int .i64 (U (k * 12))) ∧ w'.cell? ⟨b, o + k * 12 + 1, none⟩ = some (.int .i64 (U (k * 12 + 1))) ∧ w'.cell? ⟨b, o + k * 12 + 2, none⟩ = some (.int .i64 (U (k * 12 + 2))) ∧ w'.cell? ⟨b, o + k * 12 + 3, none⟩ = some (.int .i64 (U (k * 12 + 3))) ∧ w'.cell? ⟨b, o + k * 12 + 4, none⟩ = some (.int .i64 (U (k * 12 + 4))) ∧ w'.cell? ⟨b, o + k * 12 + 5, none⟩ = some (.int .i64 (U (k * 12 + 5))) ∧ w'.cell? ⟨b, o + k * 12 + 6, none⟩ = some (.int .i64 (U (k * 12 + 6))) ∧ w'.cell? ⟨b, o + k * 12 + 7, none⟩ = some (.int .i64 (U (k * 12 + 7))) ∧ w'.cell? ⟨b, o + k * 12 + 8, none⟩ = some (.int .i64 (U (k * 12 + 8))) ∧ w'.cell? ⟨b, o + k * 12 + 9, none⟩ = some (.int .i64 (U (k * 12 + 9))) ∧ w'.cell? ⟨b, o + k * 12 + 10, none⟩ = some (.int .i64 (U (k * 12 + 10))) ∧ w'.cell? ⟨b, o + k * 12 + 11, none⟩ = some (.int .i64 (U (k * 12 + 11)))) (by kernel_rfl) ?_ (fun hHeld => ?_)
            · (try dsimp only)
              (first | (go_simp; done) | (go_keep; done))
            refine tq 0 hHeld ?_
            refine tq 1 hHeld ?_
            refine tq 2 hHeld ?_
            refine tq 3 hHeld ?_
            (refine tc 4 fun K hK => ?_; go_simp; (go_at_call 20; refine (sBodyOk_q (fun j => U (k * 12 + j)) _ _ (by exact hi)).mono ?_; rintro e w2 ⟨rfl, hb2⟩; obtain ⟨hc2, hf2⟩ := bcell hb2; have hz2 := hb2.size; (try simp only [World.size_drew, World.size_alloc, World.size_setCell] at hc2 hf2 hz2); have hk3 := fun o => hc2 b o (by omega); clear hc2 hf2); (try go_wp2_with fail); refine tr hK (fun hHeld => ?_); clear hK K)
            refine tq 5 hHeld ?_
            refine tq 6 hHeld ?_
            refine tq 7 hHeld ?_
            refine tq 8 hHeld ?_
            refine tq 9 hHeld ?_
            refine tn 10 hHeld ?_
            refine tn 11 hHeld ?_
            refine tn 12 hHeld ?_
            refine tn 13 hHeld ?_
            refine tn 14 hHeld ?_
            refine tn 15 hHeld ?_
            refine tn 16 hHeld ?_
            refine tn 17 hHeld ?_
            refine tn 18 hHeld ?_
            refine tn 19 hHeld ?_
            refine tn 20 hHeld ?_
            refine tn 21 hHeld ?_
            refine tq 22 hHeld ?_
            refine tq 23 hHeld ?_
            refine wpAnyH_done (by kernel_rfl) ?_ _
            go_wp2_with fail
            go_roundw
            case rel => exact ⟨k + 1, by omega, by go_num, hB.trans (hb2.ofDr.mono hB.size), by rw [allBB, hall.out, hyes.out]; rfl⟩
            case measure => simp [intOf]; omega
      · obtain rfl : k = n := by omega
        by_cases h12 : k ≤ 12
        · have h12' : (k : Int) ≤ 12 := by omega
          go_wp2
          go_ret
          exact ⟨by rw [bodsB, hall.out, decide_eq_true h12]; rfl, hB⟩
        · have h12' : ¬ (k : Int) ≤ 12 := by omega
          go_wp2
          go_ret
          exact ⟨by rw [bodsB, decide_eq_false h12]; rfl, hB⟩
theorem sBodiesOk_q (a : Option Addr) (n c : Nat) (U : Nat → Int) (b : Bool) (w : World) (h : Flat w a (n * 12) U) (hn : n ≤ 1048576) (e : bodsB n U = b) :
    Calls Try.prog 41 #[.slice a n c] w fun e w' => e = .returned (.bool b) ∧ Below w.heap.size w w' := by subst e; exact sBodiesOk_any a n c U w h hn
theorem columnsOf_ok (a : Option Addr) (n c : Nat) (U : Nat → Int) (w : World) (h : Flat w a (n * 12) U) (hn : n ≤ 1048576) (e : bodsB n U = true) :
    Calls Try.prog 65 #[.slice a n c] w fun e w' => ∃ cb S, e = .returned (.tuple #[.pointer (some ⟨cb, 0, none⟩), .bool true]) ∧ w.heap.size ≤ cb ∧ Cs w' cb n (colOf U) S ∧ Below w.heap.size w w' :=
  (columnsOf_any a n c U w h hn).mono fun e' w' q => by
    obtain ⟨q1, (⟨_, cb, S, q2, q3, q4⟩ | ⟨q2, _⟩)⟩ := q
    · exact ⟨cb, S, q2, q3, q4, q1⟩
    · rw [e] at q2; cases q2
theorem columnsOf_no (a : Option Addr) (n c : Nat) (U : Nat → Int) (w : World) (h : Flat w a (n * 12) U) (hn : n ≤ 1048576) (e : bodsB n U = false) :
    Calls Try.prog 65 #[.slice a n c] w fun e w' => e = .returned (.tuple #[.pointer none, .bool false]) ∧ Below w.heap.size w w' :=
  (columnsOf_any a n c U w h hn).mono fun e' w' q => by
    obtain ⟨q1, (⟨q2, _⟩ | ⟨_, q2⟩)⟩ := q
    · rw [e] at q2; cases q2
    · exact ⟨q2, q1⟩
end Go.Proofs.Ythekeeagjokpeaa
namespace Go.Proofs.Ythekeeagjokpeaa
open Go.RowKit
set_option linter.unusedVariables false
set_option linter.unusedSimpArgs false

theorem bodiesOk_q (a : Option Addr) (n c : Nat) (U : Nat → Int) (b : Bool) (w : World) (h : Flat w a (n * 12) U) (hn : n ≤ 1048576) (eb : bodsB n U = b) :
    Calls Try.prog 48 #[.slice a n c] w fun e w' => e = .returned (.bool b) ∧ Below w.heap.size w w' := by
  have hset := cset_map
  cases b with
  | true =>
    go_enter Try.func48, Try.ntmps48
    go_wp2_with (go_at_call 65; refine (columnsOf_ok a n c U _ h hn eb).mono ?_; rintro e w1 ⟨cb, S, rfl, hcb, hC, hb1⟩)
    go_ret
    exact ⟨rfl, by repeat (first | with_reducible apply Below.refl | (with_reducible apply Below.setCell; rotate_left; focus (first | omega | (simp; done) | (simp; omega))) | (with_reducible apply Below.alloc; rotate_left; focus (first | omega | (simp; done) | (simp; omega))) | with_reducible apply Below.drew | with_reducible apply belowDrewN | (with_reducible apply Below.trans; rotate_left; with_reducible apply Below.mono; with_reducible assumption; focus (first | omega | (simp; done) | (simp; omega))))⟩
  | false =>
    go_enter Try.func48, Try.ntmps48
    go_wp2_with (go_at_call 65; refine (columnsOf_no a n c U _ h hn eb).mono ?_; rintro e w1 ⟨rfl, hb1⟩)
    go_ret
    exact ⟨rfl, by repeat (first | with_reducible apply Below.refl | (with_reducible apply Below.setCell; rotate_left; focus (first | omega | (simp; done) | (simp; omega))) | (with_reducible apply Below.alloc; rotate_left; focus (first | omega | (simp; done) | (simp; omega))) | with_reducible apply Below.drew | with_reducible apply belowDrewN | (with_reducible apply Below.trans; rotate_left; with_reducible apply Below.mono; with_reducible assumption; focus (first | omega | (simp; done) | (simp; omega))))⟩
end Go.Proofs.Ythekeeagjokpeaa
