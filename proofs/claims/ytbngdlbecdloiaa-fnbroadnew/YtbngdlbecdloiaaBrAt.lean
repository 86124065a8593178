/- Where a number's box is, or would come: both sides; copies. -/
import Derived.Test.YtbngdlbecdloiaaB13
import Derived.Test.YtbngdlbecdloiaaB4
import Derived.Deep.RegionHeld3
import Derived.Deep.DeepCutAuto
set_option maxHeartbeats 16000000
set_option maxRecDepth 20000
namespace Go.Proofs.Ytbngdlbecdloiaa
open Go.RowKit
set_option linter.unusedVariables false
set_option linter.unusedSimpArgs false
structure IsAt (n : Nat) (U : Nat → Int) (id : Int) (k : Nat) : Prop where
  le : k ≤ n
  low : ∀ j, j < k → U (j * 5) < id
  stop : k < n → ¬ U (k * 5) < id
theorem isAt_ex (n : Nat) (U : Nat → Int) (id : Int) : ∃ k, IsAt n U id k := by
  suffices h : ∀ m k, k + m = n → (∀ j, j < k → U (j * 5) < id) → ∃ k, IsAt n U id k from h n 0 (by omega) (fun j hj => absurd hj (Nat.not_lt_zero _))
  intro m
  induction m with
  | zero => intro k hk hl; exact ⟨k, by omega, hl, fun h => by omega⟩
  | succ m ih =>
    intro k hk hl
    by_cases h : U (k * 5) < id
    · exact ih (k + 1) (by omega) (fun j hj => by rcases Nat.lt_succ_iff_lt_or_eq.1 hj with q | rfl; exact hl j q; exact h)
    · exact ⟨k, by omega, hl, fun _ => h⟩
def thereB (n : Nat) (U : Nat → Int) (id : Int) (k : Nat) : Bool := decide (k < n ∧ U (k * 5) = id)
set_option maxHeartbeats 4000000 in
theorem itemPlace_any (a : Option Addr) (n c : Nat) (U : Nat → Int) (id : Int) (k : Nat) (w : World) (h : Flat w a (n * 5) U) (hn : n ≤ 1048576) (hk : IsAt n U id k) :
    Calls Try.prog 38 #[.slice a n c, .int .i64 id] w fun e w' => e = .returned (.tuple #[.int .i64 (k : Int), .bool (thereB n U id k)]) ∧ Below w.heap.size w w' := by
  have hset := cset_map
  have hkn := hk.le
  go_enter Try.func38, Try.ntmps38
  go_wp2
  go_loopw [6, 7, 10] (fun _ _ i wr => ∃ j : Nat, j ≤ k ∧ i = .int .i64 (j : Int) ∧ Below w.heap.size w wr) (fun _ _ i _ => k + 1 - (intOf i).toNat)
  case atStart => exact ⟨0, Nat.zero_le _, rfl, Below.refl _ _⟩
  case round =>
    obtain ⟨j, hj, rfl, hB⟩ := hrel
    have hsz := hB.size
    by_cases hlt : j < n
    · have hjn : (j : Int) < (n : Int) := by omega
      obtain ⟨b, o, rfl, hbl, hc⟩ := (h.below hB) (by omega)
      have c0 := hc (j * 5) (by omega)
      have c1 := hc (j * 5 + 1) (by omega)
      have c2 := hc (j * 5 + 2) (by omega)
      have c3 := hc (j * 5 + 3) (by omega)
      have c4 := hc (j * 5 + 4) (by omega)
      simp only [← Nat.add_assoc] at c0 c1 c2 c3 c4
      clear hc h
      by_cases hjk : j < k
      · have hl := hk.low j hjk
        have hl' : ¬ id ≤ U (j * 5) := by omega
        go_wp2
        go_roundw
        case rel => exact ⟨j + 1, by omega, by go_num, bel_a⟩
        case measure => simp [intOf]; omega
      · obtain rfl : j = k := by omega
        have hl := hk.stop hlt
        have hl' : id ≤ U (j * 5) := by omega
        have ht : thereB n U id j = (U (j * 5) == id) := by unfold thereB; rw [Bool.eq_iff_iff]; simp [hlt]
        go_upto_region 5 with fail
        refine wp_region_held_drew (S := fun w' => w'.cell? ⟨wr.heap.size, 0, none⟩ = some (.int .i64 (U (j * 5)))) (by kernel_rfl) ?_ (fun hHeld => ?_)
        · (try dsimp only)
          (first | (go_simp; done) | (go_keep; done))
        refine tq 0 hHeld ?_
        refine tq 1 hHeld ?_
        refine tq 2 hHeld ?_
        refine tq 3 hHeld ?_
        refine tq 4 hHeld ?_
        refine tq 5 hHeld ?_
        refine tq 6 hHeld ?_
        refine wpAnyH_done (by kernel_rfl) ?_ _
        go_wp2_with fail
        go_ret2
        exact ⟨by first | rfl | (rw [ht]; rfl), bel_a⟩
    · obtain rfl : j = n := by omega
      obtain rfl : j = k := by omega
      have ht : thereB j U id j = false := by unfold thereB; simp
      go_wp2
      go_ret2
      exact ⟨by first | rfl | (rw [ht]; rfl), hB⟩
set_option maxHeartbeats 4000000 in
theorem l4At_any (a : Option Addr) (n c : Nat) (U : Nat → Int) (id : Int) (k : Nat) (w : World) (h : Flat w a (n * 5) U) (hn : n ≤ 1048576) (hk : IsAt n U id k) :
    Calls Try.prog 44 #[.agg #[.slice a n c], .int .i64 id] w fun e w' => e = .returned (.tuple #[.int .i64 (k : Int), .bool (thereB n U id k)]) ∧ Below w.heap.size w w' := by
  have hset := cset_map
  have hkn := hk.le
  go_enter Try.func44, Try.ntmps44
  go_wp2
  go_loopw [6] (fun i wr => ∃ j : Nat, j ≤ k ∧ i = .int .i64 (j : Int) ∧ BrR w a n c U wr) (fun i _ => k + 1 - (intOf i).toNat)
  case atStart => exact ⟨0, Nat.zero_le _, rfl, ⟨(Below.refl _ _).alloc (Nat.le_refl _) _, by simp, by go_simp⟩⟩
  case round =>
    obtain ⟨j, hj, rfl, hB⟩ := hrel
    have hbox := hB.box
    have hbig := hB.big
    by_cases hlt : j < n
    · have hjn : (j : Int) < (n : Int) := by omega
      obtain ⟨b, o, rfl, hbl, hc⟩ := (h.below hB.bel) (by omega)
      have c0 := hc (j * 5) (by omega)
      clear hc h
      by_cases hjk : j < k
      · have hl := hk.low j hjk
        go_wp2
        go_roundw
        case rel => exact ⟨j + 1, by omega, by go_num, hB⟩
        case measure => simp [intOf]; omega
      · obtain rfl : j = k := by omega
        have hl := hk.stop hlt
        have ht : thereB n U id j = (U (j * 5) == id) := by unfold thereB; rw [Bool.eq_iff_iff]; simp [hlt]
        have hd : decide (j < n) = true := decide_eq_true hlt
        go_upto_region 4 with fail
        refine wp_region_held_drew (S := fun w' => w'.cell? ⟨w.heap.size, 0, none⟩ = some (.slice (some ⟨b, o, none⟩) n c) ∧ w'.cell? ⟨b, o + j * 5, none⟩ = some (.int .i64 (U (j * 5)))) (by kernel_rfl) ?_ (fun hHeld => ?_)
        · (try dsimp only)
          (first | (go_simp; done) | (go_keep; done))
        refine tq 0 hHeld ?_
        refine tq 1 hHeld ?_
        refine tq 2 hHeld ?_
        refine tq 3 hHeld ?_
        refine tq 4 hHeld ?_
        refine tq 5 hHeld ?_
        refine tq 6 hHeld ?_
        refine tq 7 hHeld ?_
        refine tq 8 hHeld ?_
        refine tq 9 hHeld ?_
        refine tq 10 hHeld ?_
        refine tq 11 hHeld ?_
        refine tq 12 hHeld ?_
        refine tq 13 hHeld ?_
        refine tq 14 hHeld ?_
        refine tq 15 hHeld ?_
        refine tq 16 hHeld ?_
        refine tq 17 hHeld ?_
        refine wpAnyH_done (by kernel_rfl) ?_ _
        go_wp2_with fail
        go_ret2
        exact ⟨by first | rfl | (rw [ht]; rfl), hB.bel.drew⟩
    · obtain rfl : j = n := by omega
      obtain rfl : j = k := by omega
      have ht : thereB j U id j = false := by unfold thereB; simp
      have hd : decide (j < j) = false := decide_eq_false (by omega)
      go_upto_region 4 with fail
      refine wp_region_held_drew (S := fun w' => w'.cell? ⟨w.heap.size, 0, none⟩ = some (.slice a j c)) (by kernel_rfl) ?_ (fun hHeld => ?_)
      · (try dsimp only)
        (first | (go_simp; done) | (go_keep; done))
      refine tq 0 hHeld ?_
      refine tq 1 hHeld ?_
      refine tq 2 hHeld ?_
      refine tq 3 hHeld ?_
      refine tq 4 hHeld ?_
      refine tq 5 hHeld ?_
      refine tq 6 hHeld ?_
      refine tn 7 hHeld ?_
      refine tn 8 hHeld ?_
      refine tn 9 hHeld ?_
      refine tn 10 hHeld ?_
      refine tn 11 hHeld ?_
      refine tn 12 hHeld ?_
      refine tn 13 hHeld ?_
      refine tn 14 hHeld ?_
      refine tq 15 hHeld ?_
      refine tq 16 hHeld ?_
      refine tq 17 hHeld ?_
      refine wpAnyH_done (by kernel_rfl) ?_ _
      go_wp2_with fail
      go_ret2
      exact ⟨by first | rfl | (rw [ht]; rfl), hB.bel.drew⟩
/-- what is handed out: a list of one's own -/
structure Out (w w' : World) (a : Option Addr) (n c : Nat) (R : Nat → Int) : Prop where
  own : OwnL w' w.heap.size 31 5 (.slice a n c) n R
  bel : Below w.heap.size w w'
theorem Out.set {w w' : World} {a : Option Addr} {n c : Nat} {R : Nat → Int} (h : Out w w' a n c R) {p : Addr} (v : Value) (hp : w.heap.size ≤ p.block) (hne : (Value.slice a n c).ownBlock ≠ some p.block) : Out w (w'.setCell p v) a n c R := by
  refine ⟨?_, h.bel.setCell hp v⟩
  refine h.own.kept (row := some p.block) ⟨rfl, rfl, rfl, by simp, fun k hk hn => Below.heap_setCell _ _ _ _ (fun e => hn (by rw [e]))⟩ (.inr hne)
set_option maxHeartbeats 4000000 in
theorem copied_any (a : Option Addr) (n c : Nat) (U : Nat → Int) (w : World) (h : Flat w a (n * 5) U) (hn : n ≤ 1048576) :
    Calls Try.prog 40 #[.agg #[.slice a n c]] w fun e w' => ∃ a' c', e = .returned (.agg #[.slice a' n c']) ∧ Out w w' a' n c' U := by
  have hset := cset_map
  have hE : Below w.heap.size w (((w.alloc (.cells #[.slice a n c] 25)).alloc (.cells #[.slice none 0 0] 25)).alloc (.cells #[.slice a n c] 23)) := (((Below.refl _ _).alloc (Nat.le_refl _) _).alloc (by simp) _).alloc (by simp only [World.size_alloc]; omega) _
  have hF := h.below hE
  have hcl : (((w.alloc (.cells #[.slice a n c] 25)).alloc (.cells #[.slice none 0 0] 25)).alloc (.cells #[.slice a n c] 23)).cell? ⟨w.heap.size + 1 + 1, 0, none⟩ = some (.slice a n c) := by go_simp
  go_enter Try.func40, Try.ntmps40
  go_wp2_with (go_at_call 41; refine (concat1 _ _ a n c U _ (by simp) hcl hF (by omega)).mono ?_; rintro e w1 ⟨a1, c1, rfl, ho1, hb1⟩; obtain ⟨hc1, hf1⟩ := bcell hb1; have hz1 := hb1.size; have hlt := ho1.lt; (try simp only [World.size_drew, World.size_alloc, World.size_setCell] at hc1 hf1 hz1 hlt); have hq0 : w.heap.size < w1.heap.size := (by omega); have hq1 : w.heap.size + 1 < w1.heap.size := (by omega))
  refine bodyPost_ret (v := .agg #[.slice a1 n c1]) (by simp [results, Try.results40, go_sem, *]) rfl ⟨a1, c1, rfl, ?_⟩
  have hO : Out w w1 a1 n c1 U := ⟨ho1.base (by simp only [World.size_alloc]; omega), hE.trans (hb1.mono (by simp only [World.size_alloc]; omega))⟩
  exact hO.set _ (by simp) (fun e => by have := (hlt _ e).1; simp at this; omega)
theorem OwnL.fresh (w : World) (base t k : Nat) (U : Nat → Int) (h : base ≤ w.heap.size) : OwnL (w.alloc (.cells #[] t)) base t k (.slice (Option.some ⟨w.heap.size, 0, none⟩) 0 0) 0 U :=
  ⟨by simp [numL], .inr ⟨_, 0, #[], rfl, h, Go.Deep.blk_alloc_new _ _, Nat.le_refl _, Nat.zero_le _, by simp, by simp [numL]⟩⟩
set_option maxHeartbeats 4000000 in
theorem l4Copy_any (a : Option Addr) (n c : Nat) (U : Nat → Int) (w : World) (h : Flat w a (n * 5) U) (hn : n ≤ 1048576) :
    Calls Try.prog 43 #[.agg #[.slice a n c]] w fun e w' => ∃ a' c', e = .returned (.agg #[.slice a' n c']) ∧ Out w w' a' n c' U := by
  have hset := cset_map
  have hE : Below w.heap.size w (((w.alloc (.cells #[.slice a n c] 25)).alloc (.cells #[.slice none 0 0] 25)).alloc (.cells #[] 31)) := (((Below.refl _ _).alloc (Nat.le_refl _) _).alloc (by simp) _).alloc (by simp only [World.size_alloc]; omega) _
  have hF := h.below hE
  have ho0 := OwnL.fresh ((w.alloc (.cells #[.slice a n c] 25)).alloc (.cells #[.slice none 0 0] 25)) (w.heap.size + 1 + 1) 31 5 U (by simp)
  simp only [World.size_alloc] at ho0
  go_enter Try.func43, Try.ntmps43
  go_wp2_with (refine wpList_app rfl _ _ _ rfl (w.heap.size + 1 + 1) 31 5 40 zeroI Try.underlying23 infoIt rfl (by decide) (.slice (some ⟨w.heap.size + 1 + 1, 0, none⟩) 0 0) 0 U rfl ho0 _ _ _ _ rfl hF (by unfold maxLen; omega) (by omega) (by simp) ?_; intro a1 c1 w1 ho1 hg1; rw [Nat.zero_add] at ho1; have hz1 := hg1.size; (try simp only [World.size_alloc] at hz1); have hk0 : w1.cell? ⟨w.heap.size + 1, 0, none⟩ = some (.slice none 0 0) := (hg1.cell (by go_simp) (by simp [Value.ownBlock])); have hk1 : w1.frozen? ⟨w.heap.size + 1, 0, none⟩ = false := (by rw [World.frozen?_of_block (hg1.block _ (by simp) (by simp [Value.ownBlock]))]; go_simp); have hlt := ho1.lt)
  refine bodyPost_ret (v := .agg #[.slice a1 n c1]) (by simp [results, Try.results43, go_sem, *]) rfl ⟨a1, c1, by simp, ?_⟩
  have hO : Out w w1 a1 n c1 U := ⟨(ho1.congr fun q _ => by simp [cat]).base (by omega), hE.grown hg1 hE.size (fun b hb => by have := (ho0.lt b hb).1; omega)⟩
  exact hO.set _ (by simp) (fun e => by have := (hlt _ e).1; simp at this; omega)
end Go.Proofs.Ytbngdlbecdloiaa
