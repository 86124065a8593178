/- Texts of a proof. -/
import Derived.Test.YtfiaokkolcodgaaGreatB5
import Derived.Deep.RegionHeld3
import Derived.Test.YtfiaokkolcodgaaGreatB4
import Derived.Test.YtfiaokkolcodgaaGreatB6
import Derived.Test.YtfiaokkolcodgaaGreatB1
import Derived.Deep.DeepCutAuto
import Derived.Test.YtfiaokkolcodgaaGreatB2
import Derived.Deep.QuietTactic
import Derived.BigQuiet
import Derived.Deep.RegionWith
import Derived.ProofKit
set_option maxHeartbeats 16000000
set_option maxRecDepth 20000
namespace Go.Proofs.YtfiaokkolcodgaaGreat
open Go.RowKit
set_option linter.unusedVariables false
set_option linter.unusedSimpArgs false
def Dn (x : Int) : Prop := -1099511627776 ≤ x ∧ x ≤ 1099511627776
theorem RB.size {w0 w : World} {rb p : Nat} (h : RB w0 w rb p) : w0.heap.size ≤ w.heap.size := by
 have := (h.old (B := 0) (Nat.zero_le _) (Nat.zero_le _)).size
 exact this
theorem OwnL.setq {w : World} {base t k n g c : Nat} {U : Nat → Int} (h : OwnL w base t k (.slice (Option.some ⟨g, 0, none⟩) n c) n U) (q : Nat) (hq : q < n * k) (x : Int) : OwnL (w.setCell ⟨g, q, none⟩ (.int .i64 x)) base t k (.slice (Option.some ⟨g, 0, none⟩) n c) n (fun r => if r = q then x else U r) := by
 have h1 := (World.ownsRow.stored h q (.int .i64 x)).1
 unfold OwnL
 rw [show numL (n * k) (fun r => if r = q then x else U r) = (numL (n * k) U).set q (.int .i64 x) from ?_]
 · exact h1
 · apply List.ext_getElem?
   intro r
   rw [List.getElem?_set, numL_len]
   by_cases hr : r < n * k
   · rw [numL_get hr]
     by_cases e : q = r
     · subst e; simp; omega
     · rw [if_neg e, numL_get hr]; simp [Ne.symm e]
   · rw [List.getElem?_eq_none (by rw [numL_len]; omega)]
     by_cases e : q = r
     · omega
     · rw [if_neg e, List.getElem?_eq_none (by rw [numL_len]; omega)]
theorem OwnL.loc {w : World} {base t k n c : Nat} {a : Option Addr} {U : Nat → Int} (h : OwnL w base t k (.slice a n c) n U) (h0 : 0 < n) : ∃ g, a = Option.some ⟨g, 0, none⟩ ∧ base ≤ g ∧ g < w.heap.size := by
 rcases h.2 with ⟨hv, hn⟩ | ⟨g, cap, cur, hv, hb, hg, _⟩
 · omega
 · simp only [Value.slice.injEq, true_and] at hv
   exact ⟨g, hv.1, hb, (Array.getElem?_eq_some_iff.1 hg).1⟩
theorem OwnL.cellq {w : World} {base t k n g c : Nat} {U : Nat → Int} (h : OwnL w base t k (.slice (Option.some ⟨g, 0, none⟩) n c) n U) {q : Nat} (hq : q < n * k) : w.cell? ⟨g, q, none⟩ = Option.some (.int .i64 (U q)) := by
 rw [World.ownsRow.cellAt h q hq, numL_get hq]
abbrev mixU (p : Nat) (U : Nat → Int) : Nat → Int := fun q => if q < p then 1 + (q : Int) else U q
structure Lv (w : World) (lo hi t k : Nat) (a : Option Addr) (n c : Nat) (U : Nat → Int) : Prop where
 own : OwnL w lo t k (.slice a n c) n U
 top : ∀ b, (Value.slice a n c).ownBlock = some b → b < hi
 le : hi ≤ w.heap.size
theorem Lv.on {w w' : World} {lo hi t k : Nat} {a : Option Addr} {n c : Nat} {U : Nat → Int} (h : Lv w lo hi t k a n c U) (hb : Below w.heap.size w w') : Lv w' lo hi t k a n c U := ⟨h.own.below hb, h.top, Nat.le_trans h.le hb.size⟩
theorem Lv.flat {w : World} {lo hi t k : Nat} {a : Option Addr} {n c : Nat} {U : Nat → Int} (h : Lv w lo hi t k a n c U) : Flat w a (n * k) U := h.own.flat
theorem Lv.below {w0 w w' : World} {lo hi t k B : Nat} {a : Option Addr} {n c : Nat} {U : Nat → Int} (h : Lv w lo hi t k a n c U) (hB : Below B w0 w) (hBw : B ≤ w.heap.size) (hg : w.grownBy w' (Value.slice a n c).ownBlock) (hl : B ≤ lo) : Below B w0 w' :=
 hB.grown hg hBw (fun b e => by have := (h.own.lt b e).1; omega)
theorem Lv.row {w w' : World} {b n t k : Nat} {U : Nat → Int} (h : Row w' b t (n * k) U) (hb : w.heap.size ≤ b) (hn : n ≤ 1048576) : Lv w' w.heap.size w'.heap.size t k (some ⟨b, 0, none⟩) n n U :=
 ⟨h.own hb (by unfold maxLen; omega), fun x e => by simp [Value.ownBlock] at e; subst e; exact h.lt, Nat.le_refl _⟩
structure OutL (w w' : World) (t k : Nat) (a : Option Addr) (n c : Nat) (R : Nat → Int) : Prop where
 bel : Below w.heap.size w w'
 own : OwnL w' w.heap.size t k (.slice a n c) n R
def ofL (l : List Int) : Nat → Int := fun q => l.getD q 0
theorem ofL_app (l x : List Int) (q : Nat) (h : q < l.length) : ofL (l ++ x) q = ofL l q := by
 unfold ofL
 rw [List.getD_eq_getElem?_getD, List.getD_eq_getElem?_getD, List.getElem?_append_left h]
theorem ofL_app' (l x : List Int) (q : Nat) (h : l.length ≤ q) : ofL (l ++ x) q = ofL x (q - l.length) := by
 unfold ofL
 rw [List.getD_eq_getElem?_getD, List.getD_eq_getElem?_getD, List.getElem?_append_right h]
theorem cat_ofL (l x : List Int) : cat l.length (ofL l) (ofL x) = ofL (l ++ x) := by
 funext q
 unfold cat
 by_cases h : q < l.length
 · rw [if_pos h, ofL_app l x q h]
 · rw [if_neg h, ofL_app' l x q (by omega)]
theorem step_appk {P : Program} {w : World} {ops : Array Oper} {o : Oper} {a : Act} {K : Act → World → Prop} {Q : Exit → Act → World → Prop} {E : Prop} (hgd : o.guard = none) (s x : Operand) (t : TypeId)
 (ho : o.op = .call { callee := .builtin .append, args := #[s, x], argTypes := #[t, t] })
 (base e k bytes : Nat) (z : Value) (ht : P.underlying t = some (.slice e)) (hinfo : (P.info? e).map (fun i => (i.zero, i.size, i.bytes)) = some (some z, k, bytes)) (hzs : z.cells.size = k) (hk : 0 < k)
 (v : Value) (n : Nat) (U : Nat → Int) (hs : a.eval s = v) (h : OwnL w base e k v n U) (B c : Nat) (X : Nat → Int) (hx : a.eval x = .slice (some ⟨B, 0, none⟩) 1 c) (hv : ∀ q, q < k → w.cell? ⟨B, q, none⟩ = some (.int .i64 (X q)))
 (h63 : n + 1 ≤ maxLen) (hbytes : (n + 1) * bytes ≤ 140737488355328) (hbase : base ≤ w.heap.size) (H : Nat) (hH : w.heap.size = H)
 (hK : ∀ g cap w', OwnL w' base e k (.slice (some ⟨g, 0, none⟩) (n + 1) cap) (n + 1) (cat (n * k) U X) → w.grownBy w' v.ownBlock → (v.ownBlock = some g ∨ g = H) → g < w'.heap.size → K (a.put o.dst (.slice (some ⟨g, 0, none⟩) (n + 1) cap)) w') :
 if Region.wanted o (yielded ops a.tmps) = true then Oper.wp P o a w K Q else E := by
 obtain ⟨i, hi, hzz⟩ := Option.map_eq_some_iff.1 hinfo
 simp only [Prod.mk.injEq] at hzz
 obtain ⟨hz, hsz, hby⟩ := hzz
 refine step_append_lies w hgd s x t ho base e i z k bytes ht hi hz hsz hby hzs hk v n (numL (n * k) U) hs h ⟨B, 0, none⟩ 1 c (numL (1 * k) X) hx (numL_len _ _) ?_ (fun u hu => by obtain ⟨q, _, rfl⟩ := List.mem_map.1 hu; rfl) (by omega) h63 hbytes hbase H hH ?_
 · intro j u hu
   have hj : j < 1 * k := by have := (List.getElem?_eq_some_iff.1 hu).1; rwa [numL_len] at this
   rw [numL_get hj] at hu
   rw [Addr.add_lit, Nat.zero_add, hv j (by omega)]
   exact hu
 · intro g cap w' h2 h3 h4 h5
   refine hK g cap w' ?_ h3 h4 h5
   unfold OwnL
   rw [Nat.add_mul, ← numL_cat]
   exact h2
end Go.Proofs.YtfiaokkolcodgaaGreat
namespace Go.Proofs.YtfiaokkolcodgaaGreat
open Go.RowKit
set_option linter.unusedVariables false
theorem kf2 {W w1 : World} (hb : Below W.heap.size W w1) (b : Nat) (h : b + 1 < W.heap.size := by ((try simp only [zz]); omega)) :
 ((∀ o, w1.cell? ⟨b, o, none⟩ = W.cell? ⟨b, o, none⟩) ∧ (∀ o, w1.frozen? ⟨b, o, none⟩ = W.frozen? ⟨b, o, none⟩) ∧ b < w1.heap.size) ∧ ((∀ o, w1.cell? ⟨b + 1, o, none⟩ = W.cell? ⟨b + 1, o, none⟩) ∧ (∀ o, w1.frozen? ⟨b + 1, o, none⟩ = W.frozen? ⟨b + 1, o, none⟩) ∧ b + 1 < w1.heap.size) :=
 ⟨kfa hb (b) (by omega), kfa hb (b + 1) (by omega)⟩
theorem kf3 {W w1 : World} (hb : Below W.heap.size W w1) (b : Nat) (h : b + 1 + 1 < W.heap.size := by ((try simp only [zz]); omega)) :
 ((∀ o, w1.cell? ⟨b, o, none⟩ = W.cell? ⟨b, o, none⟩) ∧ (∀ o, w1.frozen? ⟨b, o, none⟩ = W.frozen? ⟨b, o, none⟩) ∧ b < w1.heap.size) ∧ ((∀ o, w1.cell? ⟨b + 1, o, none⟩ = W.cell? ⟨b + 1, o, none⟩) ∧ (∀ o, w1.frozen? ⟨b + 1, o, none⟩ = W.frozen? ⟨b + 1, o, none⟩) ∧ b + 1 < w1.heap.size) ∧ ((∀ o, w1.cell? ⟨b + 1 + 1, o, none⟩ = W.cell? ⟨b + 1 + 1, o, none⟩) ∧ (∀ o, w1.frozen? ⟨b + 1 + 1, o, none⟩ = W.frozen? ⟨b + 1 + 1, o, none⟩) ∧ b + 1 + 1 < w1.heap.size) :=
 ⟨kfa hb (b) (by omega), kfa hb (b + 1) (by omega), kfa hb (b + 1 + 1) (by omega)⟩
theorem kf4 {W w1 : World} (hb : Below W.heap.size W w1) (b : Nat) (h : b + 1 + 1 + 1 < W.heap.size := by ((try simp only [zz]); omega)) :
 ((∀ o, w1.cell? ⟨b, o, none⟩ = W.cell? ⟨b, o, none⟩) ∧ (∀ o, w1.frozen? ⟨b, o, none⟩ = W.frozen? ⟨b, o, none⟩) ∧ b < w1.heap.size) ∧ ((∀ o, w1.cell? ⟨b + 1, o, none⟩ = W.cell? ⟨b + 1, o, none⟩) ∧ (∀ o, w1.frozen? ⟨b + 1, o, none⟩ = W.frozen? ⟨b + 1, o, none⟩) ∧ b + 1 < w1.heap.size) ∧ ((∀ o, w1.cell? ⟨b + 1 + 1, o, none⟩ = W.cell? ⟨b + 1 + 1, o, none⟩) ∧ (∀ o, w1.frozen? ⟨b + 1 + 1, o, none⟩ = W.frozen? ⟨b + 1 + 1, o, none⟩) ∧ b + 1 + 1 < w1.heap.size) ∧ ((∀ o, w1.cell? ⟨b + 1 + 1 + 1, o, none⟩ = W.cell? ⟨b + 1 + 1 + 1, o, none⟩) ∧ (∀ o, w1.frozen? ⟨b + 1 + 1 + 1, o, none⟩ = W.frozen? ⟨b + 1 + 1 + 1, o, none⟩) ∧ b + 1 + 1 + 1 < w1.heap.size) :=
 ⟨kfa hb (b) (by omega), kfa hb (b + 1) (by omega), kfa hb (b + 1 + 1) (by omega), kfa hb (b + 1 + 1 + 1) (by omega)⟩
theorem kf5 {W w1 : World} (hb : Below W.heap.size W w1) (b : Nat) (h : b + 1 + 1 + 1 + 1 < W.heap.size := by ((try simp only [zz]); omega)) :
 ((∀ o, w1.cell? ⟨b, o, none⟩ = W.cell? ⟨b, o, none⟩) ∧ (∀ o, w1.frozen? ⟨b, o, none⟩ = W.frozen? ⟨b, o, none⟩) ∧ b < w1.heap.size) ∧ ((∀ o, w1.cell? ⟨b + 1, o, none⟩ = W.cell? ⟨b + 1, o, none⟩) ∧ (∀ o, w1.frozen? ⟨b + 1, o, none⟩ = W.frozen? ⟨b + 1, o, none⟩) ∧ b + 1 < w1.heap.size) ∧ ((∀ o, w1.cell? ⟨b + 1 + 1, o, none⟩ = W.cell? ⟨b + 1 + 1, o, none⟩) ∧ (∀ o, w1.frozen? ⟨b + 1 + 1, o, none⟩ = W.frozen? ⟨b + 1 + 1, o, none⟩) ∧ b + 1 + 1 < w1.heap.size) ∧ ((∀ o, w1.cell? ⟨b + 1 + 1 + 1, o, none⟩ = W.cell? ⟨b + 1 + 1 + 1, o, none⟩) ∧ (∀ o, w1.frozen? ⟨b + 1 + 1 + 1, o, none⟩ = W.frozen? ⟨b + 1 + 1 + 1, o, none⟩) ∧ b + 1 + 1 + 1 < w1.heap.size) ∧ ((∀ o, w1.cell? ⟨b + 1 + 1 + 1 + 1, o, none⟩ = W.cell? ⟨b + 1 + 1 + 1 + 1, o, none⟩) ∧ (∀ o, w1.frozen? ⟨b + 1 + 1 + 1 + 1, o, none⟩ = W.frozen? ⟨b + 1 + 1 + 1 + 1, o, none⟩) ∧ b + 1 + 1 + 1 + 1 < w1.heap.size) :=
 ⟨kfa hb (b) (by omega), kfa hb (b + 1) (by omega), kfa hb (b + 1 + 1) (by omega), kfa hb (b + 1 + 1 + 1) (by omega), kfa hb (b + 1 + 1 + 1 + 1) (by omega)⟩
theorem kf6 {W w1 : World} (hb : Below W.heap.size W w1) (b : Nat) (h : b + 1 + 1 + 1 + 1 + 1 < W.heap.size := by ((try simp only [zz]); omega)) :
 ((∀ o, w1.cell? ⟨b, o, none⟩ = W.cell? ⟨b, o, none⟩) ∧ (∀ o, w1.frozen? ⟨b, o, none⟩ = W.frozen? ⟨b, o, none⟩) ∧ b < w1.heap.size) ∧ ((∀ o, w1.cell? ⟨b + 1, o, none⟩ = W.cell? ⟨b + 1, o, none⟩) ∧ (∀ o, w1.frozen? ⟨b + 1, o, none⟩ = W.frozen? ⟨b + 1, o, none⟩) ∧ b + 1 < w1.heap.size) ∧ ((∀ o, w1.cell? ⟨b + 1 + 1, o, none⟩ = W.cell? ⟨b + 1 + 1, o, none⟩) ∧ (∀ o, w1.frozen? ⟨b + 1 + 1, o, none⟩ = W.frozen? ⟨b + 1 + 1, o, none⟩) ∧ b + 1 + 1 < w1.heap.size) ∧ ((∀ o, w1.cell? ⟨b + 1 + 1 + 1, o, none⟩ = W.cell? ⟨b + 1 + 1 + 1, o, none⟩) ∧ (∀ o, w1.frozen? ⟨b + 1 + 1 + 1, o, none⟩ = W.frozen? ⟨b + 1 + 1 + 1, o, none⟩) ∧ b + 1 + 1 + 1 < w1.heap.size) ∧ ((∀ o, w1.cell? ⟨b + 1 + 1 + 1 + 1, o, none⟩ = W.cell? ⟨b + 1 + 1 + 1 + 1, o, none⟩) ∧ (∀ o, w1.frozen? ⟨b + 1 + 1 + 1 + 1, o, none⟩ = W.frozen? ⟨b + 1 + 1 + 1 + 1, o, none⟩) ∧ b + 1 + 1 + 1 + 1 < w1.heap.size) ∧ ((∀ o, w1.cell? ⟨b + 1 + 1 + 1 + 1 + 1, o, none⟩ = W.cell? ⟨b + 1 + 1 + 1 + 1 + 1, o, none⟩) ∧ (∀ o, w1.frozen? ⟨b + 1 + 1 + 1 + 1 + 1, o, none⟩ = W.frozen? ⟨b + 1 + 1 + 1 + 1 + 1, o, none⟩) ∧ b + 1 + 1 + 1 + 1 + 1 < w1.heap.size) :=
 ⟨kfa hb (b) (by omega), kfa hb (b + 1) (by omega), kfa hb (b + 1 + 1) (by omega), kfa hb (b + 1 + 1 + 1) (by omega), kfa hb (b + 1 + 1 + 1 + 1) (by omega), kfa hb (b + 1 + 1 + 1 + 1 + 1) (by omega)⟩
end Go.Proofs.YtfiaokkolcodgaaGreat
namespace Go.Proofs.YtfiaokkolcodgaaGreat
open Go.RowKit
set_option linter.unusedVariables false
set_option linter.unusedSimpArgs false
theorem kSetQuiet {cb n k : Nat} {C : Nat → Nat → Int} {S : Nat → Value} {w : World} (h : Cs w cb n C S) (hk : k < n) (hn : n ≤ 1048576) (y : Int) :
 Calls Tryz.prog 116 #[hdk cb k, .int .i64 y] w fun e w' => e = .returned (.tuple #[]) ∧ Cs w' cb n (setC C 11 k y) S ∧ Fr (Xc S) w w' := by
 have hset := cset_map
 have l1 := h.lt
 have hkn : (k : Int) < (n : Int) := by omega
 obtain ⟨g11, c11, e11, hc11, hv11, hf11, l11g, lc11⟩ := h.at (i := 11) (by omega) hk
 go_enter Tryz.func116, Tryz.ntmps116
 go_upto_region 1 with fail
 refine wp_region_held_drew (S := fun w' => w'.cell? ⟨w.heap.size, 0, none⟩ = some (.int .i64 (k : Int)) ∧ w'.cell? ⟨w.heap.size, 1, none⟩ = some (.pointer (some ⟨cb, 0, none⟩)) ∧ w'.cell? ⟨cb, 11, none⟩ = some (.slice (some ⟨g11, 0, none⟩) n c11)) (by kernel_rfl) ?_ (fun hHeld => ?_)
 · (try dsimp only)
   (first | (go_simp; done) | (go_keep; done))
 refine tq 0 hHeld ?_
 refine tq 1 hHeld ?_
 refine tq 2 hHeld ?_
 refine tq 3 hHeld ?_
 refine tq 4 hHeld ?_
 refine tq 5 hHeld ?_
 refine tq 6 hHeld ?_
 refine tq 7 hHeld ?_
 refine tq 8 hHeld ?_
 (refine tc 9 fun K hK => ?_; go_simp; refine tr hK (fun hHeld => ?_); clear hK K)
 refine wpAnyH_done (by kernel_rfl) ?_ _
 go_wp2_with fail
 go_end0
 have hE : Below (w.setCell ⟨g11, k, none⟩ (.int .i64 y)).heap.size (w.setCell ⟨g11, k, none⟩ (.int .i64 y)) ((w.setCell ⟨g11, k, none⟩ (.int .i64 y)).alloc (Obj.cells #[.int .i64 (k : Int), .pointer (some ⟨cb, 0, none⟩)] 64)).drew := bel_a
 exact ⟨rfl, (h.set (i := 11) (by omega) hk e11 y).below hE, ((Fr.refl (Xc S) w).trans (Fr.setCell (X := Xc S) (p := ⟨g11, k, none⟩) ⟨11, by omega, by rw [e11]; rfl⟩ (.int .i64 y))).trans (Fr.of_below hE)⟩
theorem kSetDrive {cb n k : Nat} {C : Nat → Nat → Int} {S : Nat → Value} {w : World} (h : Cs w cb n C S) (hk : k < n) (hn : n ≤ 1048576) (x y : Int) :
 Calls Tryz.prog 115 #[hdk cb k, vv x y] w fun e w' => e = .returned (.tuple #[]) ∧ Cs w' cb n (setC (setC C 6 k x) 7 k y) S ∧ Fr (Xc S) w w' := by
 have hset := cset_map
 have l1 := h.lt
 have hkn : (k : Int) < (n : Int) := by omega
 obtain ⟨g6, c6, e6, hc6, hv6, hf6, l6g, lc6⟩ := h.at (i := 6) (by omega) hk
 obtain ⟨g7, c7, e7, hc7, hv7, hf7, l7g, lc7⟩ := h.at (i := 7) (by omega) hk
 have ne : g6 ≠ g7 := fun q => h.dis 6 7 (by omega) (by omega) (by omega) g6 (by rw [e6]; rfl) (by rw [e7, q]; rfl)
 go_enter Tryz.func115, Tryz.ntmps115
 go_upto_region 1 with fail
 refine wp_region_held_drew (S := fun w' => w'.cell? ⟨w.heap.size, 0, none⟩ = some (.int .i64 (k : Int)) ∧ w'.cell? ⟨w.heap.size, 1, none⟩ = some (.pointer (some ⟨cb, 0, none⟩)) ∧ w'.cell? ⟨cb, 6, none⟩ = some (.slice (some ⟨g6, 0, none⟩) n c6) ∧ w'.cell? ⟨cb, 7, none⟩ = some (.slice (some ⟨g7, 0, none⟩) n c7) ∧ w'.cell? ⟨w.heap.size + 1, 0, none⟩ = some (.int .i64 x) ∧ w'.cell? ⟨w.heap.size + 1, 1, none⟩ = some (.int .i64 y)) (by kernel_rfl) ?_ (fun hHeld => ?_)
 · (try dsimp only)
   (first | (go_simp; done) | (go_keep; done))
 refine tq 0 hHeld ?_
 refine tq 1 hHeld ?_
 refine tq 2 hHeld ?_
 refine tq 3 hHeld ?_
 refine tq 4 hHeld ?_
 refine tq 5 hHeld ?_
 refine tq 6 hHeld ?_
 refine tq 7 hHeld ?_
 refine tq 8 hHeld ?_
 refine tq 9 hHeld ?_
 refine tq 10 hHeld ?_
 refine tq 11 hHeld ?_
 refine tq 12 hHeld ?_
 refine tq 13 hHeld ?_
 refine tq 14 hHeld ?_
 refine tq 15 hHeld ?_
 refine tq 16 hHeld ?_
 refine tq 17 hHeld ?_
 refine tq 18 hHeld ?_
 (refine tc 19 fun K hK => ?_; go_simp; refine tr hK (fun hHeld => ?_); clear hK K)
 refine tq 20 hHeld ?_
 (refine tc 21 fun K hK => ?_; go_simp; refine tr hK (fun hHeld => ?_); clear hK K)
 refine wpAnyH_done (by kernel_rfl) ?_ _
 go_wp2_with fail
 go_end0
 have hE : Below ((w.setCell ⟨g6, k, none⟩ (.int .i64 x)).setCell ⟨g7, k, none⟩ (.int .i64 y)).heap.size ((w.setCell ⟨g6, k, none⟩ (.int .i64 x)).setCell ⟨g7, k, none⟩ (.int .i64 y)) ((((w.setCell ⟨g6, k, none⟩ (.int .i64 x)).setCell ⟨g7, k, none⟩ (.int .i64 y)).alloc (Obj.cells #[.int .i64 (k : Int), .pointer (some ⟨cb, 0, none⟩)] 64)).alloc (Obj.cells #[.int .i64 x, .int .i64 y] 60)).drew := bel_a
 exact ⟨rfl, ((h.set (i := 6) (by omega) hk e6 x).set (i := 7) (by omega) hk e7 y).below hE, (((Fr.refl (Xc S) w).trans (Fr.setCell (X := Xc S) (p := ⟨g6, k, none⟩) ⟨6, by omega, by rw [e6]; rfl⟩ (.int .i64 x))).trans (Fr.setCell (X := Xc S) (p := ⟨g7, k, none⟩) ⟨7, by omega, by rw [e7]; rfl⟩ (.int .i64 y))).trans (Fr.of_below hE)⟩
theorem kSetAt {cb n k : Nat} {C : Nat → Nat → Int} {S : Nat → Value} {w : World} (h : Cs w cb n C S) (hk : k < n) (hn : n ≤ 1048576) (x y : Int) :
 Calls Tryz.prog 125 #[hdk cb k, vv x y] w fun e w' => e = .returned (.tuple #[]) ∧ Cs w' cb n (setC (setC C 4 k x) 5 k y) S ∧ Fr (Xc S) w w' := by
 have hset := cset_map
 have l1 := h.lt
 have hkn : (k : Int) < (n : Int) := by omega
 obtain ⟨g4, c4, e4, hc4, hv4, hf4, l4g, lc4⟩ := h.at (i := 4) (by omega) hk
 obtain ⟨g5, c5, e5, hc5, hv5, hf5, l5g, lc5⟩ := h.at (i := 5) (by omega) hk
 have ne : g4 ≠ g5 := fun q => h.dis 4 5 (by omega) (by omega) (by omega) g4 (by rw [e4]; rfl) (by rw [e5, q]; rfl)
 go_enter Tryz.func125, Tryz.ntmps125
 go_upto_region 1 with fail
 refine wp_region_held_drew (S := fun w' => w'.cell? ⟨w.heap.size, 0, none⟩ = some (.int .i64 (k : Int)) ∧ w'.cell? ⟨w.heap.size, 1, none⟩ = some (.pointer (some ⟨cb, 0, none⟩)) ∧ w'.cell? ⟨cb, 4, none⟩ = some (.slice (some ⟨g4, 0, none⟩) n c4) ∧ w'.cell? ⟨cb, 5, none⟩ = some (.slice (some ⟨g5, 0, none⟩) n c5) ∧ w'.cell? ⟨w.heap.size + 1, 0, none⟩ = some (.int .i64 x) ∧ w'.cell? ⟨w.heap.size + 1, 1, none⟩ = some (.int .i64 y)) (by kernel_rfl) ?_ (fun hHeld => ?_)
 · (try dsimp only)
   (first | (go_simp; done) | (go_keep; done))
 refine tq 0 hHeld ?_
 refine tq 1 hHeld ?_
 refine tq 2 hHeld ?_
 refine tq 3 hHeld ?_
 refine tq 4 hHeld ?_
 refine tq 5 hHeld ?_
 refine tq 6 hHeld ?_
 refine tq 7 hHeld ?_
 refine tq 8 hHeld ?_
 refine tq 9 hHeld ?_
 refine tq 10 hHeld ?_
 refine tq 11 hHeld ?_
 refine tq 12 hHeld ?_
 refine tq 13 hHeld ?_
 refine tq 14 hHeld ?_
 refine tq 15 hHeld ?_
 refine tq 16 hHeld ?_
 refine tq 17 hHeld ?_
 refine tq 18 hHeld ?_
 (refine tc 19 fun K hK => ?_; go_simp; refine tr hK (fun hHeld => ?_); clear hK K)
 refine tq 20 hHeld ?_
 (refine tc 21 fun K hK => ?_; go_simp; refine tr hK (fun hHeld => ?_); clear hK K)
 refine wpAnyH_done (by kernel_rfl) ?_ _
 go_wp2_with fail
 go_end0
 have hE : Below ((w.setCell ⟨g4, k, none⟩ (.int .i64 x)).setCell ⟨g5, k, none⟩ (.int .i64 y)).heap.size ((w.setCell ⟨g4, k, none⟩ (.int .i64 x)).setCell ⟨g5, k, none⟩ (.int .i64 y)) ((((w.setCell ⟨g4, k, none⟩ (.int .i64 x)).setCell ⟨g5, k, none⟩ (.int .i64 y)).alloc (Obj.cells #[.int .i64 (k : Int), .pointer (some ⟨cb, 0, none⟩)] 64)).alloc (Obj.cells #[.int .i64 x, .int .i64 y] 60)).drew := bel_a
 exact ⟨rfl, ((h.set (i := 4) (by omega) hk e4 x).set (i := 5) (by omega) hk e5 y).below hE, (((Fr.refl (Xc S) w).trans (Fr.setCell (X := Xc S) (p := ⟨g4, k, none⟩) ⟨4, by omega, by rw [e4]; rfl⟩ (.int .i64 x))).trans (Fr.setCell (X := Xc S) (p := ⟨g5, k, none⟩) ⟨5, by omega, by rw [e5]; rfl⟩ (.int .i64 y))).trans (Fr.of_below hE)⟩
end Go.Proofs.YtfiaokkolcodgaaGreat
namespace Go.Proofs.YtfiaokkolcodgaaGreat
set_option maxRecDepth 100000
def ordL : { l : List Char // Tryz.prog.initOrder = String.ofList l } := ⟨_, rfl⟩
theorem ordT : Tryz.prog.initOrder.toList = ordL.1 := (congrArg String.toList ordL.2).trans String.toList_ofList
theorem headE : ((behindMainWord (wordsSigns ordL.1)).head? == some "cut".toList) = true := by kernel_rfl
theorem makeT : Tryz.prog.make = some .cut := make_of ordT headE
theorem liftsFinalT : Tryz.prog.liftsFinal = false := liftsFinal_of ordT headE
theorem laysLaterT : Tryz.prog.laysLater = false := by kernel_rfl
theorem bearsReflectT : Tryz.prog.bearsReflect = false := by kernel_rfl
theorem doorFitsT : Tryz.prog.doorFits [] = true := by kernel_rfl
theorem mayEnterT : Tryz.prog.mayEnter = true := mayEnter_of ordT headE laysLaterT bearsReflectT doorFitsT
theorem ownT : ownKnob Tryz.prog.godebug = none := by kernel_rfl
theorem laidOutT : laidOutB Tryz.prog = true := by kernel_rfl
theorem mapsRowedT : mapsRowed Tryz.prog = true := by kernel_rfl
theorem stopsHeardT : Tryz.prog.stopsHeard = true := by kernel_rfl
theorem plainKeysT : Tryz.prog.plainKeys = true := by kernel_rfl
end Go.Proofs.YtfiaokkolcodgaaGreat
