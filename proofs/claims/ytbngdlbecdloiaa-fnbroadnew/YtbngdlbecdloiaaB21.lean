/- A variable's block, known whole; what moves it. A box put, a box gone: what is so behind it. A box put: both sides, whatever is asked. A list of boxes while it is drawn. A list that a function makes. -/
import Derived.Test.YtbngdlbecdloiaaB8
import Derived.Test.YtbngdlbecdloiaaB10
import Derived.Test.YtbngdlbecdloiaaB16
import Derived.Test.YtbngdlbecdloiaaBrPS
import Derived.Test.YtbngdlbecdloiaaBrPN
import Derived.Test.YtbngdlbecdloiaaBrPI
import Derived.Test.YtbngdlbecdloiaaBrPz
import Derived.Deep.RegionHeld3
import Derived.Deep.DeepCutAuto
set_option maxHeartbeats 16000000
set_option maxRecDepth 20000
namespace Go.Proofs.Ytbngdlbecdloiaa
open Go.RowKit
set_option linter.unusedVariables false
set_option linter.unusedSimpArgs false
def Blk (w : World) (b : Nat) (cs : Array Value) (t : TypeId) : Prop := w.heap[b]? = some (.cells cs t (0, 0))
theorem Blk.lt {w : World} {b : Nat} {cs : Array Value} {t : TypeId} (h : Blk w b cs t) : b < w.heap.size := by
  rcases Nat.lt_or_ge b w.heap.size with q | q
  · exact q
  · unfold Blk at h; rw [Array.getElem?_eq_none q] at h; cases h
theorem Blk.cell {w : World} {b : Nat} {cs : Array Value} {t : TypeId} (h : Blk w b cs t) (i : Nat) {v : Value} (hv : cs[i]? = some v) : w.cell? ⟨b, i, none⟩ = some v := by unfold Blk at h; simp [World.cell?, h, hv]
theorem Blk.f {w : World} {b : Nat} {cs : Array Value} {t : TypeId} (h : Blk w b cs t) : ∀ o, w.frozen? ⟨b, o, none⟩ = false := by unfold Blk at h; intro o; simp [World.frozen?, h]
theorem Blk.on {w w' : World} {b : Nat} {cs : Array Value} {t : TypeId} (h : Blk w b cs t) (hb : Below w.heap.size w w') : Blk w' b cs t := (hb.block b h.lt).trans h
theorem Blk.but {w w' : World} {b rb : Nat} {cs : Array Value} {t : TypeId} (h : Blk w b cs t) (hb : But rb w w') (hn : b ≠ rb) : Blk w' b cs t := (hb.block b h.lt hn).trans h
theorem Blk.new (w : World) (cs : Array Value) (t : TypeId) : Blk (w.alloc (.cells cs t)) w.heap.size cs t := by show (w.heap.push _)[w.heap.size]? = _; simp
theorem Blk.al {w : World} {b : Nat} {cs : Array Value} {t : TypeId} (h : Blk w b cs t) (o : Obj) : Blk (w.alloc o) b cs t := h.on ((Below.refl _ _).alloc (Nat.le_refl _) o)
theorem Blk.dr {w : World} {b : Nat} {cs : Array Value} {t : TypeId} (h : Blk w b cs t) : Blk w.drew b cs t := h
theorem Blk.far {w : World} {b b' o : Nat} {cs : Array Value} {t : TypeId} (h : Blk w b cs t) (hn : b ≠ b') (v : Value) : Blk (w.setCell ⟨b', o, none⟩ v) b cs t := (Below.heap_setCell w ⟨b', o, none⟩ v b hn).trans h
theorem Blk.put {w : World} {b : Nat} {cs : Array Value} {t : TypeId} (h : Blk w b cs t) (i : Nat) (v : Value) : Blk (w.setCell ⟨b, i, none⟩ v) b (cs.setIfInBounds i v) t := by
  show (w.heap.modify b _)[b]? = _
  unfold Blk at h
  rw [Array.getElem?_modify, if_pos rfl, h]
  rfl
theorem Blk.gr {w w' : World} {b : Nat} {cs : Array Value} {t : TypeId} {row : Option Nat} (h : Blk w b cs t) (hg : w.grownBy w' row) (hn : row ≠ some b) : Blk w' b cs t := (hg.block b h.lt (fun e => hn e.symm)).trans h
theorem Blk.ne {w : World} {b base t t' k n : Nat} {cs : Array Value} {v : Value} {U : Nat → Int} (h : Blk w b cs t') (ho : OwnL w base t k v n U) (ht : t ≠ t') : v.ownBlock ≠ some b := by
  intro e
  rcases ho.2 with ⟨hv, _⟩ | ⟨g', cap, cur, hv, hb, hg, _⟩
  · subst hv; simp [Value.ownBlock] at e
  · subst hv
    simp [Value.ownBlock] at e
    subst e
    unfold Blk at h
    rw [h] at hg
    simp only [Option.some.injEq, Obj.cells.injEq] at hg
    exact ht hg.2.1.symm
theorem Blk.neb {w : World} {b b' : Nat} {cs cs' : Array Value} {t t' : TypeId} (h : Blk w b cs t) (h' : Blk w b' cs' t') (ht : t ≠ t') : b ≠ b' := by
  rintro rfl
  unfold Blk at h h'
  rw [h] at h'
  simp only [Option.some.injEq, Obj.cells.injEq] at h'
  exact ht h'.2.1
theorem OwnL.dr {w : World} {base t k n : Nat} {v : Value} {U : Nat → Int} (h : OwnL w base t k v n U) : OwnL w.drew base t k v n U := World.ownsRow.drew h
theorem OwnL.al {w : World} {base t k n : Nat} {v : Value} {U : Nat → Int} (h : OwnL w base t k v n U) (o : Obj) : OwnL (w.alloc o) base t k v n U := h.below ((Below.refl _ _).alloc (Nat.le_refl _) o)
theorem OwnL.btb {w w' : World} {rb base t k n : Nat} {v : Value} {U : Nat → Int} (h : OwnL w base t k v n U) (hb : But rb w w') (hr : rb < base) : OwnL w' base t k v n U := by
  have hg : w.grownBy w' (Option.some rb) := ⟨hb.os, hb.tape, hb.output, hb.size, fun j hj hne => hb.block j hj (fun e => hne (by rw [e]))⟩
  cases e : v.ownBlock with
  | none => exact World.ownsRow.kept h hg (.inl e)
  | some b => exact World.ownsRow.kept h hg (.inr (by rw [e]; intro q; have := (h.lt b e).1; simp at q; omega))
theorem OwnL.stb {w : World} {base b o t k n : Nat} {v : Value} {U : Nat → Int} (h : OwnL w base t k v n U) (hn : v.ownBlock ≠ Option.some b) (x : Value) : OwnL (w.setCell ⟨b, o, none⟩ x) base t k v n U :=
  h.kept (row := Option.some b) ⟨rfl, rfl, rfl, by simp, fun j hj hne => Below.heap_setCell _ _ _ _ (fun e => hne (by rw [e]))⟩ (.inr hn)
theorem RB.al {w0 w : World} {rb p : Nat} (h : RB w0 w rb p) (o : Obj) : RB w0 (w.alloc o) rb p := h.alloc o
theorem RB.rs {w0 w : World} {rb p : Nat} (h : RB w0 w rb p) : RS w rb p := RS.of h
/-- one list grows, or is set: the reader beside it -/
theorem Rd.upq {w w' : World} {rb p B : Nat} (h : Rd w rb p) (k : Below B w w') (hB : rb < B) : Rd w' rb p := by
  obtain ⟨a, len, cap, c0, c1, f1, hle, hz⟩ := h
  refine ⟨a, len, cap, by rw [k.cell hB]; exact c0, by rw [k.cell hB]; exact c1, by rw [k.frozen hB]; exact f1, hle, ?_⟩
  rcases hz with hz | ⟨b, off, ha, hb, hz⟩
  · exact .inl hz
  · exact .inr ⟨b, off, ha, hb, fun i hi => by obtain ⟨z, h1, h2⟩ := hz i hi; exact ⟨z, by rw [k.cell (p := ⟨b, off + i, none⟩) (by show b < B; omega)]; exact h1, h2⟩⟩
theorem RB.upq {w0 w w' : World} {rb p : Nat} (h : RB w0 w rb p) (k : Below w0.heap.size w w') (hl : rb < w0.heap.size) : RB w0 w' rb p := by
  obtain ⟨q, a, b, c⟩ := h
  exact ⟨q, a, b.upq k hl, ⟨k.os.trans c.os, k.tape.trans c.tape, k.output.trans c.output, Nat.le_trans c.size k.size, fun j hj hn => (k.block j hj).trans (c.block j hj hn)⟩⟩
theorem RB.gr {w0 w w' : World} {rb p : Nat} {row : Option Nat} (h : RB w0 w rb p) (hg : w.grownBy w' row) (hl : rb < w0.heap.size) (hr : ∀ b, row = some b → w0.heap.size ≤ b) : RB w0 w' rb p :=
  h.upq ((Below.refl w0.heap.size w).grown hg h.size hr) hl
end Go.Proofs.Ytbngdlbecdloiaa
namespace Go.Proofs.Ytbngdlbecdloiaa
open Go.RowKit
set_option linter.unusedVariables false
set_option linter.unusedSimpArgs false
theorem allB_of {U : Nat → Int} : ∀ n, (∀ k, k < n → stepB U k = true) → allB U n = true
  | 0, _ => rfl
  | n + 1, h => by unfold allB; rw [allB_of n (fun k hk => h k (by omega)), h n (by omega)]; rfl
theorem allB_step {U : Nat → Int} : ∀ {n k : Nat}, allB U n = true → k < n → stepB U k = true
  | 0, _, _, l => absurd l (Nat.not_lt_zero _)
  | n + 1, k, h, l => by
    unfold allB at h
    rw [Bool.and_eq_true] at h
    rcases Nat.lt_succ_iff_lt_or_eq.1 l with l | rfl
    · exact allB_step h.1 l
    · exact h.2
theorem broad_le {n : Nat} {U : Nat → Int} (h : broadB n U = true) : n ≤ 24 := by unfold broadB at h; rw [Bool.and_eq_true] at h; exact of_decide_eq_true h.1
theorem broad_item {n : Nat} {U : Nat → Int} (h : broadB n U = true) {k : Nat} (hk : k < n) : itemB (fun j => U (k * 5 + j)) = true := by
  unfold broadB at h
  rw [Bool.and_eq_true] at h
  have hs := allB_step h.2 hk
  unfold stepB at hs
  rw [Bool.and_eq_true] at hs
  exact hs.1
theorem broad_next {n : Nat} {U : Nat → Int} (h : broadB n U = true) {k : Nat} (hk : k + 1 < n) : U (k * 5) < U ((k + 1) * 5) := by
  unfold broadB at h
  rw [Bool.and_eq_true] at h
  have hs := allB_step h.2 hk
  unfold stepB at hs
  rw [Bool.and_eq_true] at hs
  have h2 := hs.2
  simp only [show ¬ k + 1 = 0 by omega, decide_false, Bool.false_or, Nat.add_sub_cancel, decide_eq_true_eq] at h2
  exact h2
theorem broad_asc {n : Nat} {U : Nat → Int} (h : broadB n U = true) {i : Nat} : ∀ {j}, i < j → j < n → U (i * 5) < U (j * 5)
  | 0, hi, _ => absurd hi (Nat.not_lt_zero _)
  | j + 1, hi, hj => by
    have h1 := broad_next h hj
    rcases Nat.lt_succ_iff_lt_or_eq.1 hi with q | rfl
    · have h2 := broad_asc h q (by omega)
      omega
    · exact h1
theorem broad_of {n : Nat} {U : Nat → Int} (hn : n ≤ 24) (hi : ∀ k, k < n → itemB (fun j => U (k * 5 + j)) = true) (ha : ∀ k, k + 1 < n → U (k * 5) < U ((k + 1) * 5)) : broadB n U = true := by
  unfold broadB
  rw [decide_eq_true hn, Bool.true_and]
  refine allB_of n fun k hk => ?_
  unfold stepB
  rw [hi k hk, Bool.true_and]
  by_cases h0 : k = 0
  · simp [h0]
  · have h1 := ha (k - 1) (by omega)
    rw [show k - 1 + 1 = k by omega] at h1
    simp only [h0, decide_false, Bool.false_or, decide_eq_true_eq]
    exact h1
theorem itemB_cong {V W : Nat → Int} (h : ∀ j, j < 5 → V j = W j) : itemB V = itemB W := by
  unfold itemB
  rw [h 0 (by omega), h 1 (by omega), h 2 (by omega), h 3 (by omega), h 4 (by omega)]
theorem insU_lo {k : Nat} {U X : Nat → Int} {d i j : Nat} (hi : i < k) (hj : j < 5) : insU k U X d (i * 5 + j) = U (i * 5 + j) := by
  unfold insU cat
  rw [if_pos (by omega), if_pos (by omega)]
theorem insU_at {k : Nat} {U X : Nat → Int} {d j : Nat} (hj : j < 5) : insU k U X d (k * 5 + j) = X j := by
  unfold insU cat
  rw [if_pos (by omega), if_neg (by omega), Nat.add_sub_cancel_left]
theorem insU_hi {k : Nat} {U X : Nat → Int} {d i j : Nat} (hi : k < i) (hj : j < 5) : insU k U X d (i * 5 + j) = U ((i - (k + 1) + d) * 5 + j) := by
  unfold insU cat
  rw [if_neg (by omega)]
  show U _ = U _
  congr 1
  omega
theorem insU_lo0 {k : Nat} {U X : Nat → Int} {d i : Nat} (hi : i < k) : insU k U X d (i * 5) = U (i * 5) := insU_lo (j := 0) hi (by omega)
theorem insU_at0 {k : Nat} {U X : Nat → Int} {d : Nat} : insU k U X d (k * 5) = X 0 := insU_at (j := 0) (by omega)
theorem insU_hi0 {k : Nat} {U X : Nat → Int} {d i : Nat} (hi : k < i) : insU k U X d (i * 5) = U ((i - (k + 1) + d) * 5) := insU_hi (j := 0) hi (by omega)
theorem ins_ok {n k N d : Nat} {U X : Nat → Int} (hb : broadB n U = true) (hi : itemB X = true) (hk : IsAt n U (X 0) k) (hN : N ≤ 24) (hd : N + d = n + k + 1) (hdk : d = k + 1 ∧ k < n ∧ U (k * 5) = X 0 ∨ d = k ∧ (k < n → X 0 < U (k * 5))) : broadB N (insU k U X d) = true := by
  have hkn := hk.le
  refine broad_of hN (fun i hiN => ?_) (fun i hiN => ?_)
  · rcases Nat.lt_trichotomy i k with q | rfl | q
    · rw [itemB_cong (fun j hj => insU_lo q hj)]; exact broad_item hb (by omega)
    · rw [itemB_cong (fun j hj => insU_at hj)]; exact hi
    · rw [itemB_cong (fun j hj => insU_hi q hj)]; exact broad_item hb (by omega)
  · rcases Nat.lt_trichotomy i k with q | rfl | q
    · rw [insU_lo0 q]
      by_cases e : i + 1 = k
      · rw [e, insU_at0]; exact hk.low i q
      · rw [insU_lo0 (by omega)]; exact broad_next hb (by omega)
    · rw [insU_at0, insU_hi0 (by omega)]
      rcases hdk with ⟨h1, h2, h3⟩ | ⟨h1, h2⟩
      · rw [← h3, show i + 1 - (i + 1) + d = i + 1 by omega]; exact broad_next hb (by omega)
      · rw [show i + 1 - (i + 1) + d = i by omega]; exact h2 (by omega)
    · rw [insU_hi0 q, insU_hi0 (by omega), show i + 1 - (k + 1) + d = (i - (k + 1) + d) + 1 by omega]
      exact broad_next hb (by omega)
theorem there_t {n k : Nat} {U : Nat → Int} {id : Int} (h : thereB n U id k = true) : k < n ∧ U (k * 5) = id := by unfold thereB at h; simpa using h
theorem there_f {n k : Nat} {U : Nat → Int} {id : Int} (hk : IsAt n U id k) (h : thereB n U id k = false) : k < n → id < U (k * 5) := fun l => by
  unfold thereB at h
  simp only [decide_eq_false_iff_not, not_and] at h
  have h1 := h l
  have h2 := hk.stop l
  omega
theorem putIs_ok {n k N : Nat} {U X R : Nat → Int} {B : Bool} (h : PutIs n U X k N R B) (hk : IsAt n U (X 0) k) (hb : broadB n U = true) : broadB N R = true := by
  have h24 := broad_le hb
  rcases h with ⟨h1, _⟩ | ⟨_, _, rfl, _, rfl⟩ | ⟨_, hi, ht, rfl, _, rfl⟩ | ⟨_, _, _, _, rfl, _, rfl⟩ | ⟨_, hi, ht, hn, rfl, _, rfl⟩
  · rw [hb] at h1; cases h1
  · exact hb
  · have ht' := there_t ht
    exact ins_ok hb hi hk h24 (by omega) (.inl ⟨rfl, ht'.1, ht'.2⟩)
  · exact hb
  · exact ins_ok hb hi hk (by omega) (by omega) (.inr ⟨rfl, there_f hk ht⟩)
theorem putIs_ids {n k N : Nat} {U X R : Nat → Int} {B : Bool} (h : PutIs n U X k N R B) (hk : IsAt n U (X 0) k) (hb : broadB n U = true) {M : Int} (hU : ∀ j, j < n → U (j * 5) < M) (hX : X 0 < M) : ∀ j, j < N → R (j * 5) < M := by
  have hkn := hk.le
  rcases h with ⟨h1, _⟩ | ⟨_, _, rfl, _, rfl⟩ | ⟨_, hi, ht, rfl, _, rfl⟩ | ⟨_, _, _, _, rfl, _, rfl⟩ | ⟨_, hi, ht, hn, rfl, _, rfl⟩
  · rw [hb] at h1; cases h1
  · exact hU
  · intro j hj
    rcases Nat.lt_trichotomy j k with q | rfl | q
    · rw [insU_lo0 q]; exact hU j (by omega)
    · rw [insU_at0]; exact hX
    · rw [insU_hi0 q]; exact hU _ (by omega)
  · exact hU
  · intro j hj
    rcases Nat.lt_trichotomy j k with q | rfl | q
    · rw [insU_lo0 q]; exact hU j (by omega)
    · rw [insU_at0]; exact hX
    · rw [insU_hi0 q]; exact hU _ (by omega)
theorem putIs_le {n k N : Nat} {U X R : Nat → Int} {B : Bool} (h : PutIs n U X k N R B) : N ≤ n + 1 := by
  rcases h with ⟨_, h, _⟩ | ⟨_, _, h, _⟩ | ⟨_, _, _, h, _⟩ | ⟨_, _, _, _, h, _⟩ | ⟨_, _, _, _, h, _⟩ <;> omega
/-- of a number above all the list grows -/
theorem putIs_new {n k N : Nat} {U X R : Nat → Int} {B : Bool} (h : PutIs n U X k N R B) (hb : broadB n U = true) (hi : itemB X = true) (hn : n < 24) (hU : ∀ j, j < n → U (j * 5) < X 0) : N = n + 1 := by
  rcases h with ⟨h1, _⟩ | ⟨_, h1, _⟩ | ⟨_, _, ht, _⟩ | ⟨_, _, _, h1, _⟩ | ⟨_, _, _, _, h, _⟩
  · rw [hb] at h1; cases h1
  · rw [hi] at h1; cases h1
  · have := there_t ht; have := hU k this.1; omega
  · omega
  · exact h
end Go.Proofs.Ytbngdlbecdloiaa
namespace Go.Proofs.Ytbngdlbecdloiaa
open Go.RowKit
set_option linter.unusedVariables false
set_option linter.unusedSimpArgs false
theorem sPut_any (a : Option Addr) (n c : Nat) (U X : Nat → Int) (k : Nat) (w : World) (h : Flat w a (n * 5) U) (hc : n ≤ c) (hn : n ≤ 1048576) (hk : IsAt n U (X 0) k) (ha : ∃ b o, a = some ⟨b, o, none⟩) (N : Nat) (R : Nat → Int) (B : Bool) (hp : PutIs n U X k N R B) :
    Calls Try.prog 11 #[.agg #[.slice a n c], itemW X] w fun e w' => ∃ a' c', e = .returned (.tuple #[.agg #[.slice a' N c'], .bool B]) ∧ Out w w' a' N c' R := by
  rcases hp with ⟨hb, rfl, rfl⟩ | ⟨hb, hi, rfl, rfl, rfl⟩ | ⟨hb, hi, ht, rfl, rfl, rfl⟩ | ⟨hb, hi, ht, h24, rfl, rfl, rfl⟩ | ⟨hb, hi, ht, h24, rfl, rfl, rfl⟩
  · refine (sPut_r a n c U X k w h hc hn hk hb).mono ?_
    rintro e w' ⟨a', c', h1, h2⟩
    exact ⟨a', c', h1, h2 R⟩
  · exact sPut_i a N c _ X k w h hc hn hk hb hi
  · exact sPut_t a N c U X k w h hc hn hk hb hi ht
  · exact sPut_f a N c _ X k w h hc hn hk hb hi ht h24
  · exact sPut_n a n c U X k w h hc hn hk ha hb hi ht h24
theorem put_any (a : Option Addr) (n c : Nat) (U X : Nat → Int) (k : Nat) (w : World) (h : Flat w a (n * 5) U) (hc : n ≤ c) (hn : n ≤ 1048576) (hk : IsAt n U (X 0) k) (ha : ∃ b o, a = some ⟨b, o, none⟩) (N : Nat) (R : Nat → Int) (B : Bool) (hp : PutIs n U X k N R B) :
    Calls Try.prog 10 #[.agg #[.slice a n c], itemW X] w fun e w' => ∃ a' c', e = .returned (.tuple #[.agg #[.slice a' N c'], .bool B]) ∧ Out w w' a' N c' R := by
  rcases hp with ⟨hb, rfl, rfl⟩ | ⟨hb, hi, rfl, rfl, rfl⟩ | ⟨hb, hi, ht, rfl, rfl, rfl⟩ | ⟨hb, hi, ht, h24, rfl, rfl, rfl⟩ | ⟨hb, hi, ht, h24, rfl, rfl, rfl⟩
  · refine (put_r a n c U X k w h hc hn hk hb).mono ?_
    rintro e w' ⟨a', c', h1, h2⟩
    exact ⟨a', c', h1, h2 R⟩
  · exact put_i a N c _ X k w h hc hn hk hb hi
  · exact put_t a N c U X k w h hc hn hk ha hb hi ht
  · exact put_f a N c _ X k w h hc hn hk hb hi ht h24
  · exact put_n a n c U X k w h hc hn hk ha hb hi ht h24
end Go.Proofs.Ytbngdlbecdloiaa
namespace Go.Proofs.Ytbngdlbecdloiaa
open Go.RowKit
set_option linter.unusedVariables false
set_option linter.unusedSimpArgs false
theorem sPut_own (base : Nat) (a : Option Addr) (n c : Nat) (U X : Nat → Int) (k : Nat) (w : World) (h : OwnL w base 31 5 (.slice a n c) n U) (hn : n ≤ 1048576) (hk : IsAt n U (X 0) k) (N : Nat) (R : Nat → Int) (B : Bool) (hp : PutIs n U X k N R B) :
    Calls Try.prog 11 #[.agg #[.slice a n c], itemW X] w fun e w' => ∃ a' c', e = .returned (.tuple #[.agg #[.slice a' N c'], .bool B]) ∧ Out w w' a' N c' R := by
  rcases h.2 with ⟨hv, hn0⟩ | ⟨g, cap, cur, hv, hb, hg, _⟩
  · simp only [Value.slice.injEq] at hv
    obtain ⟨rfl, rfl, rfl⟩ := hv
    rcases hp with ⟨hb, rfl, rfl⟩ | ⟨hb, hi, rfl, rfl, rfl⟩ | ⟨hb, hi, ht, rfl, rfl, rfl⟩ | ⟨hb, hi, ht, h24, rfl, rfl, rfl⟩ | ⟨hb, hi, ht, h24, rfl, rfl, rfl⟩
    · refine (sPut_r none 0 0 U X k w h.flat (Nat.le_refl _) hn hk hb).mono ?_
      rintro e w' ⟨a', c', h1, h2⟩
      exact ⟨a', c', h1, h2 R⟩
    · exact sPut_i none 0 0 _ X k w h.flat (Nat.le_refl _) hn hk hb hi
    · exact sPut_t none 0 0 U X k w h.flat (Nat.le_refl _) hn hk hb hi ht
    · exact sPut_f none 0 0 _ X k w h.flat (Nat.le_refl _) hn hk hb hi ht h24
    · exact sPut_z 0 0 U X k w h.flat (Nat.le_refl _) (Nat.le_refl _) hn hk hb hi ht h24
  · simp only [Value.slice.injEq] at hv
    obtain ⟨rfl, _, rfl⟩ := hv
    exact sPut_any _ n _ U X k w h.flat h.le hn hk ⟨g, 0, rfl⟩ N R B hp
theorem put_own (base : Nat) (a : Option Addr) (n c : Nat) (U X : Nat → Int) (k : Nat) (w : World) (h : OwnL w base 31 5 (.slice a n c) n U) (hn : n ≤ 1048576) (hk : IsAt n U (X 0) k) (N : Nat) (R : Nat → Int) (B : Bool) (hp : PutIs n U X k N R B) :
    Calls Try.prog 10 #[.agg #[.slice a n c], itemW X] w fun e w' => ∃ a' c', e = .returned (.tuple #[.agg #[.slice a' N c'], .bool B]) ∧ Out w w' a' N c' R := by
  rcases h.2 with ⟨hv, hn0⟩ | ⟨g, cap, cur, hv, hb, hg, _⟩
  · simp only [Value.slice.injEq] at hv
    obtain ⟨rfl, rfl, rfl⟩ := hv
    rcases hp with ⟨hb, rfl, rfl⟩ | ⟨hb, hi, rfl, rfl, rfl⟩ | ⟨hb, hi, ht, rfl, rfl, rfl⟩ | ⟨hb, hi, ht, h24, rfl, rfl, rfl⟩ | ⟨hb, hi, ht, h24, rfl, rfl, rfl⟩
    · refine (put_r none 0 0 U X k w h.flat (Nat.le_refl _) hn hk hb).mono ?_
      rintro e w' ⟨a', c', h1, h2⟩
      exact ⟨a', c', h1, h2 R⟩
    · exact put_i none 0 0 _ X k w h.flat (Nat.le_refl _) hn hk hb hi
    · have := (there_t ht).1; omega
    · exact put_f none 0 0 _ X k w h.flat (Nat.le_refl _) hn hk hb hi ht h24
    · exact put_z 0 0 U X k w h.flat (Nat.le_refl _) (Nat.le_refl _) hn hk hb hi ht h24
  · simp only [Value.slice.injEq] at hv
    obtain ⟨rfl, _, rfl⟩ := hv
    exact put_any _ n _ U X k w h.flat h.le hn hk ⟨g, 0, rfl⟩ N R B hp
/-- the answer's block, the variable's, and the list, beside the reader -/
structure Bq (w wr : World) (rb p vb : Nat) (a : Option Addr) (n c : Nat) (U : Nat → Int) : Prop where
  fr : RB w wr rb p
  lo : rb < w.heap.size
  vl : w.heap.size < vb
  res : Blk wr w.heap.size #[.slice none 0 0] 25
  var : Blk wr vb #[.slice a n c] 25
  own : OwnL wr (w.heap.size + 1) 31 5 (.slice a n c) n U
theorem neItBr : 31 ≠ 25 := by decide
section
variable {w wr w1 : World} {rb p p1 vb n c : Nat} {a : Option Addr} {U : Nat → Int}
theorem Bq.start (h : RS w rb p) (U : Nat → Int) : Bq w ((w.alloc (.cells #[.slice none 0 0] 25)).alloc (.cells #[.slice none 0 0] 25)) rb p (w.heap.size + 1) none 0 0 U :=
  ⟨(h.rb.al _).al _, h.lt, Nat.lt_succ_self _, (Blk.new w _ _).al _, by have q := Blk.new (w.alloc (.cells #[.slice none 0 0] 25)) #[.slice none 0 0] 25; simpa using q, OwnL.nil _ _ _ _ _⟩
theorem Bq.call (h : Bq w wr rb p vb a n c U) (k : RB wr w1 rb p1) : Bq w w1 rb p1 vb a n c U :=
  have l := h.lo
  have m := h.vl
  ⟨h.fr.trans k, h.lo, h.vl, h.res.but k.but (by omega), h.var.but k.but (by omega), h.own.btb k.but (by omega)⟩
theorem Bq.calb (h : Bq w wr rb p vb a n c U) (k : Below wr.heap.size wr w1) : Bq w w1 rb p vb a n c U := ⟨h.fr.below k, h.lo, h.vl, h.res.on k, h.var.on k, h.own.below k⟩
theorem Bq.al (h : Bq w wr rb p vb a n c U) (o : Obj) : Bq w (wr.alloc o) rb p vb a n c U := h.calb ((Below.refl _ _).alloc (Nat.le_refl _) o)
theorem Bq.mono (h : Bq w wr rb p vb a n c U) (k : p ≤ p1) : Bq w wr rb p1 vb a n c U := ⟨h.fr.mono k, h.lo, h.vl, h.res, h.var, h.own⟩
theorem Bq.dr (h : Bq w wr rb p vb a n c U) : Bq w wr.drew rb p vb a n c U := ⟨h.fr.drew, h.lo, h.vl, h.res, h.var, h.own.dr⟩
theorem Bq.sz (h : Bq w wr rb p vb a n c U) : vb < wr.heap.size := h.var.lt
theorem Bq.vc (h : Bq w wr rb p vb a n c U) : wr.cell? ⟨vb, 0, none⟩ = some (.slice a n c) := h.var.cell 0 rfl
theorem Bq.vf (h : Bq w wr rb p vb a n c U) : wr.frozen? ⟨vb, 0, none⟩ = false := h.var.f 0
theorem Bq.far (h : Bq w wr rb p vb a n c U) {b o t : Nat} {cs : Array Value} (hb : Blk wr b cs t) (ht : 31 ≠ t) (hl : vb < b) (v : Value) : Bq w (wr.setCell ⟨b, o, none⟩ v) rb p vb a n c U :=
  have m := h.vl
  ⟨h.fr.setNew (by have := h.lo; show rb < b; omega) (by show _ ≤ b; omega) _, h.lo, h.vl, h.res.far (by omega) _, h.var.far (by omega) _, h.own.stb (hb.ne h.own ht) _⟩
theorem Bq.put (h : Bq w wr rb p vb a n c U) {a' : Option Addr} {N c' : Nat} {R : Nat → Int} (ho : Out wr w1 a' N c' R) : Bq w (w1.setCell ⟨vb, 0, none⟩ (.slice a' N c')) rb p vb a' N c' R :=
  have h1 := h.calb ho.bel
  have hl := h.lo
  have m := h.vl
  ⟨h1.fr.setNew (by show rb < vb; omega) (by show _ ≤ vb; omega) _, hl, m, h1.res.far (by omega) _, h1.var.put 0 _, (ho.own.stb (by intro e; have := (ho.own.lt _ e).1; have := h.sz; omega) _).base (by have := h.sz; omega)⟩
theorem Bq.row {g : Nat} (h : Bq w wr rb p vb (some ⟨g, 0, none⟩) n c U) (q : Nat) (hq : q < n * 5) (x : Int) : Bq w (wr.setCell ⟨g, q, none⟩ (.int .i64 x)) rb p vb (some ⟨g, 0, none⟩) n c (fun r => if r = q then x else U r) :=
  have hg := (h.own.lt g rfl).1
  have hl := h.lo
  have hv : ¬ g = vb := fun e => h.var.ne h.own neItBr (by rw [← e]; rfl)
  ⟨h.fr.setNew (by show rb < g; omega) (by show _ ≤ g; omega) _, hl, h.vl, h.res.far (by omega) _, h.var.far (fun e => hv e.symm) _, h.own.setq q hq x⟩
theorem Bq.grow (h : Bq w wr rb p vb a n c U) {a' : Option Addr} {N c' : Nat} {R : Nat → Int} (hg : wr.grownBy w1 (Value.slice a n c).ownBlock) (ho : OwnL w1 (w.heap.size + 1) 31 5 (.slice a' N c') N R) : Bq w (w1.setCell ⟨vb, 0, none⟩ (.slice a' N c')) rb p vb a' N c' R :=
  have hl := h.lo
  have m := h.vl
  have lt := h.own.lt
  have hv := h.var.gr hg (h.var.ne h.own neItBr)
  ⟨(h.fr.gr hg hl (fun b e => by have := (lt b e).1; omega)).setNew (by show rb < vb; omega) (by show _ ≤ vb; omega) _, hl, m, (h.res.gr hg (fun e => by have := (lt _ e).1; omega)).far (by omega) _, hv.put 0 _, ho.stb (hv.ne ho neItBr) _⟩
end
theorem neItBx : 31 ≠ 29 := by decide
end Go.Proofs.Ytbngdlbecdloiaa
namespace Go.Proofs.Ytbngdlbecdloiaa
open Go.RowKit
set_option linter.unusedVariables false
set_option linter.unusedSimpArgs false
/-- a list that a function makes, in its own memory -/
structure LsV (w wr : World) (t k : Nat) (a : Option Addr) (m c : Nat) (l : List Int) : Prop where
  bel : Below w.heap.size w wr
  len : l.length = m * k
  own : OwnL wr w.heap.size t k (.slice a m c) m (ofL l)
theorem LsV.below {w wr w' : World} {t k m c : Nat} {a : Option Addr} {l : List Int} (h : LsV w wr t k a m c l) (hb : Below wr.heap.size wr w') : LsV w w' t k a m c l := ⟨h.bel.trans (hb.mono h.bel.size), h.len, h.own.below hb⟩
theorem LsV.push {w wr w1 : World} {t k m c c' : Nat} {a a' : Option Addr} {l x : List Int} (h : LsV w wr t k a m c l) (hx : x.length = k) (hg : wr.grownBy w1 (Value.slice a m c).ownBlock) (ho : OwnL w1 w.heap.size t k (.slice a' (m + 1) c') (m + 1) (cat (m * k) (ofL l) (ofL x))) : LsV w w1 t k a' (m + 1) c' (l ++ x) :=
  ⟨h.bel.grown hg h.bel.size (fun b e => (h.own.lt b e).1), by rw [List.length_append, h.len, hx, Nat.succ_mul], by rw [← cat_ofL, h.len]; exact ho⟩
theorem LsV.new (w : World) (t k : Nat) : LsV w (w.alloc (.cells #[] t)) t k (some ⟨w.heap.size, 0, none⟩) 0 0 [] :=
  ⟨(Below.refl _ _).alloc (Nat.le_refl _) _, by simp, ⟨by simp [numL], .inr ⟨w.heap.size, 0, #[], rfl, Nat.le_refl _, Go.Deep.blk_alloc_new _ _, Nat.le_refl _, Nat.zero_le _, by simp, by simp [numL]⟩⟩⟩
theorem LsV.newAt (w : World) (t k s : Nat) (e : w.heap.size = s) : LsV w (w.alloc (.cells #[] t)) t k (some ⟨s, 0, none⟩) 0 0 [] := by subst e; exact LsV.new w t k
theorem LsV.nil (w : World) (t k : Nat) : LsV w w t k none 0 0 [] := ⟨Below.refl _ _, by simp, OwnL.nil _ _ _ _ _⟩
theorem LsV.out {w0 w wr : World} {t k m c : Nat} {a : Option Addr} {l : List Int} (h : LsV w wr t k a m c l) (hb : Below w0.heap.size w0 w) : OutL w0 wr t k a m c (ofL l) := ⟨hb.trans (h.bel.mono hb.size), h.own.base hb.size⟩
theorem flat1 (w : World) (p : Int) (t : TypeId) : Flat (w.alloc (Obj.cells #[.int .i64 p] t)) (some ⟨w.heap.size, 0, none⟩) (1 * 1) (ofL [p]) := by
  intro _
  refine ⟨w.heap.size, 0, rfl, by simp, fun j hj => ?_⟩
  rw [Nat.zero_add]
  obtain rfl : j = 0 := by omega
  simp only [ofL]; go_simp; (try rfl)
end Go.Proofs.Ytbngdlbecdloiaa
