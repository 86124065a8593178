/- Texts of a proof. -/
import Derived.Test.YtmnhankcbkfhaaaGreatDoorB2
import Derived.Test.YtmnhankcbkfhaaaGreatDoorB1
import Derived.Test.YtmnhankcbkfhaaaGreatDoorB4
import Derived.Test.YtmnhankcbkfhaaaGreatDoorB29
import Derived.Test.YtmnhankcbkfhaaaGreatDoorB19
import Derived.Test.YtmnhankcbkfhaaaGreatDoorB7
import Derived.Test.YtmnhankcbkfhaaaGreatDoorB8
import Derived.Deep.RegionHeld3
import Derived.Deep.DeepCutAuto
import Derived.Laws.EntriesVeiled
set_option maxHeartbeats 16000000
set_option maxRecDepth 20000
namespace Go.Proofs.YtmnhankcbkfhaaaGreatDoor
open Go.RowKit
set_option linter.unusedVariables false
set_option linter.unusedSimpArgs false
structure Nb (w : World) (b k : Nat) (V : Nat → Int) : Prop where
 c : ∀ j, j < k → w.cell? ⟨b, j, none⟩ = some (.int .i64 (V j))
 f : ∀ o, w.frozen? ⟨b, o, none⟩ = false
 l : b < w.heap.size
theorem Nb.on {w w' : World} {b k : Nat} {V : Nat → Int} (h : Nb w b k V) (hb : Below w.heap.size w w') : Nb w' b k V :=
 ⟨fun j hj => (hb.cell (p := ⟨b, j, none⟩) h.l).trans (h.c j hj), fun o => (hb.frozen (p := ⟨b, o, none⟩) h.l).trans (h.f o), Nat.lt_of_lt_of_le h.l hb.size⟩
theorem Nb.fr {w w' : World} {b k : Nat} {V : Nat → Int} {X : Nat → Prop} (h : Nb w b k V) (hs : Fr X w w') (hx : ¬ X b) : Nb w' b k V :=
 ⟨fun j hj => (hs.cell (p := ⟨b, j, none⟩) h.l hx).trans (h.c j hj), fun o => (hs.frozen (p := ⟨b, o, none⟩) h.l hx).trans (h.f o), Nat.lt_of_lt_of_le h.l hs.size⟩
theorem Nb.dr {w : World} {b k : Nat} {V : Nat → Int} (h : Nb w b k V) : Nb w.drew b k V := ⟨fun j hj => h.c j hj, fun o => h.f o, h.l⟩
theorem Nb.congr {w : World} {b k : Nat} {V W : Nat → Int} (h : Nb w b k V) (e : ∀ j, j < k → V j = W j) : Nb w b k W := ⟨fun j hj => by rw [← e j hj]; exact h.c j hj, h.f, h.l⟩
theorem Nb.set {w : World} {b k : Nat} {V : Nat → Int} (h : Nb w b k V) (j : Nat) (hj : j < k) (x : Int) : Nb (w.setCell ⟨b, j, none⟩ (.int .i64 x)) b k (fun i => if i = j then x else V i) := by
 have h1 := h.c j hj
 refine ⟨fun i hi => ?_, fun o => ?_, by simp; exact h.l⟩
 · by_cases e : i = j
   · subst e; rw [if_pos rfl]; exact World.cell?_setCell_same _ _ _ h1
   · rw [if_neg e, World.cell?_setCell_other _ _ _ _ (by intro h; simp only [Addr.mk.injEq] at h; omega)]; exact h.c i hi
 · have := h.f o; simp [this]
theorem isPlace_z (x y : Int) (b : Bool) (w : World) (e : inB 2560000 x y = b) : Calls Tryz.prog 160 #[vv x y] w fun e w' => e = .returned (.bool b) ∧ Below w.heap.size w w' := by
 subst e; exact isPlace_any x y w
theorem placedOf_r (g x y : Int) (w : World) (lg : 1 ≤ g ∧ g ≤ 25600) (p1 : inB 2560000 x y = true) :
 Calls Tryz.prog 149 #[s3 1 g 0, vv x y] w fun e w' => e = .returned (.tuple #[b4 x y g g, .bool true]) ∧ Below w.heap.size w w' := by
 have hset := cset_map
 go_enter Tryz.func149, Tryz.ntmps149
 go_wp2_with (first
  | (go_at_call 134; refine (figureOf_round _ _ (by omega) (by omega)).mono ?_; rintro e w1 ⟨rfl, hb1⟩; have hz1 := hb1.size; (try simp only [zz] at hz1); have := kf3 hb1 w.heap.size)
  | (go_at_call 160; refine (isPlace_z x y _ _ p1).mono ?_; rintro e w2 ⟨rfl, hb2⟩; have hz2 := hb2.size; (try simp only [zz] at hz2); have := kf3 hb2 w.heap.size)
  | (go_at_call 161; refine (wayOf_any _ _ _).mono ?_; rintro e w3 ⟨rfl, hb3⟩; have hz3 := hb3.size; (try simp only [zz] at hz3); have := kf3 hb3 w.heap.size)
  | (go_at_call 223; refine (reach_r _ _).mono ?_; rintro e w4 ⟨rfl, hb4⟩; have hz4 := hb4.size; (try simp only [zz] at hz4); have := kf3 hb4 w.heap.size))
 exact bodyPost_ret (v := .tuple #[b4 x y g g, .bool true]) (by simp [results, Tryz.results149, go_sem, *]) rfl ⟨rfl, bel_a⟩
theorem placedOf_b (g h x y : Int) (w : World) (lg : 1 ≤ g ∧ g ≤ 25600) (lh : 1 ≤ h ∧ h ≤ 25600) (p1 : inB 2560000 x y = true) :
 Calls Tryz.prog 149 #[s3 2 g h, vv x y] w fun e w' => e = .returned (.tuple #[b4 x y g h, .bool true]) ∧ Below w.heap.size w w' := by
 have hset := cset_map
 go_enter Tryz.func149, Tryz.ntmps149
 go_wp2_with (first
  | (go_at_call 134; refine (figureOf_box _ _ _ (by omega) (by omega) (by omega) (by omega)).mono ?_; rintro e w1 ⟨rfl, hb1⟩; have hz1 := hb1.size; (try simp only [zz] at hz1); have := kf3 hb1 w.heap.size)
  | (go_at_call 160; refine (isPlace_z x y _ _ p1).mono ?_; rintro e w2 ⟨rfl, hb2⟩; have hz2 := hb2.size; (try simp only [zz] at hz2); have := kf3 hb2 w.heap.size)
  | (go_at_call 161; refine (wayOf_any _ _ _).mono ?_; rintro e w3 ⟨rfl, hb3⟩; have hz3 := hb3.size; (try simp only [zz] at hz3); have := kf3 hb3 w.heap.size)
  | (go_at_call 224; refine (reach_b _ _ _).mono ?_; rintro e w4 ⟨rfl, hb4⟩; have hz4 := hb4.size; (try simp only [zz] at hz4); have := kf3 hb4 w.heap.size))
 exact bodyPost_ret (v := .tuple #[b4 x y g h, .bool true]) (by simp [results, Tryz.results149, go_sem, *]) rfl ⟨rfl, bel_a⟩
theorem placedOf_n (k g h x y : Int) (w : World) (sh : shB k g h = false) :
 Calls Tryz.prog 149 #[s3 k g h, vv x y] w fun e w' => e = .returned (.tuple #[b4 0 0 0 0, .bool false]) ∧ Below w.heap.size w w' := by
 have hset := cset_map
 go_enter Tryz.func149, Tryz.ntmps149
 go_wp2_with (go_at_call 134; refine (figureOf_none k g h _ sh).mono ?_; rintro e w1 ⟨rfl, hb1⟩; have hz1 := hb1.size; (try simp only [zz] at hz1); have := kf3 hb1 w.heap.size)
 exact bodyPost_ret (v := .tuple #[b4 0 0 0 0, .bool false]) (by simp [results, Tryz.results149, go_sem, *]) rfl ⟨rfl, bel_a⟩
theorem placedOf_p (k g h x y : Int) (w : World) (sh : shB k g h = true) (p1 : inB 2560000 x y = false) :
 Calls Tryz.prog 149 #[s3 k g h, vv x y] w fun e w' => e = .returned (.tuple #[b4 0 0 0 0, .bool false]) ∧ Below w.heap.size w w' := by
 have hset := cset_map
 rcases shB_kinds sh with ⟨rfl, rfl, a0, a1⟩ | ⟨rfl, a0, a1, a2, a3⟩
 · go_enter Tryz.func149, Tryz.ntmps149
   go_wp2_with (first
   | (go_at_call 134; refine (figureOf_round _ _ (by omega) (by omega)).mono ?_; rintro e w1 ⟨rfl, hb1⟩; have hz1 := hb1.size; (try simp only [zz] at hz1); have := kf3 hb1 w.heap.size)
   | (go_at_call 160; refine (isPlace_z x y _ _ p1).mono ?_; rintro e w2 ⟨rfl, hb2⟩; have hz2 := hb2.size; (try simp only [zz] at hz2); have := kf3 hb2 w.heap.size))
   exact bodyPost_ret (v := .tuple #[b4 0 0 0 0, .bool false]) (by simp [results, Tryz.results149, go_sem, *]) rfl ⟨rfl, bel_a⟩
 · go_enter Tryz.func149, Tryz.ntmps149
   go_wp2_with (first
   | (go_at_call 134; refine (figureOf_box _ _ _ (by omega) (by omega) (by omega) (by omega)).mono ?_; rintro e w1 ⟨rfl, hb1⟩; have hz1 := hb1.size; (try simp only [zz] at hz1); have := kf3 hb1 w.heap.size)
   | (go_at_call 160; refine (isPlace_z x y _ _ p1).mono ?_; rintro e w2 ⟨rfl, hb2⟩; have hz2 := hb2.size; (try simp only [zz] at hz2); have := kf3 hb2 w.heap.size))
   exact bodyPost_ret (v := .tuple #[b4 0 0 0 0, .bool false]) (by simp [results, Tryz.results149, go_sem, *]) rfl ⟨rfl, bel_a⟩
theorem toucherOf_rr (w : World) : Calls Tryz.prog 150 #[.int .i64 1, .int .i64 1] w fun e w' => e = .returned (.func (.func 162) #[] #[]) ∧ Below w.heap.size w w' := by
 have hset := cset_map
 go_enter Tryz.func150, Tryz.ntmps150
 go_wp2_with fail
 go_ret
 exact ⟨rfl, bel_a⟩
theorem toucherOf_rb (w : World) : Calls Tryz.prog 150 #[.int .i64 1, .int .i64 2] w fun e w' => e = .returned (.func (.func 163) #[] #[]) ∧ Below w.heap.size w w' := by
 have hset := cset_map
 go_enter Tryz.func150, Tryz.ntmps150
 go_wp2_with fail
 go_ret
 exact ⟨rfl, bel_a⟩
theorem toucherOf_br (w : World) : Calls Tryz.prog 150 #[.int .i64 2, .int .i64 1] w fun e w' => e = .returned (.func (.func 164) #[] #[]) ∧ Below w.heap.size w w' := by
 have hset := cset_map
 go_enter Tryz.func150, Tryz.ntmps150
 go_wp2_with fail
 go_ret
 exact ⟨rfl, bel_a⟩
theorem toucherOf_bb (w : World) : Calls Tryz.prog 150 #[.int .i64 2, .int .i64 2] w fun e w' => e = .returned (.func (.func 165) #[] #[]) ∧ Below w.heap.size w w' := by
 have hset := cset_map
 go_enter Tryz.func150, Tryz.ntmps150
 go_wp2_with fail
 go_ret
 exact ⟨rfl, bel_a⟩
def plZ (k g h x y : Int) : Bool := shB k g h && inB 2560000 x y
theorem placedOf_any (k g h x y : Int) (w : World) : Calls Tryz.prog 149 #[s3 k g h, vv x y] w fun e w' => ∃ A B C D : Int, e = .returned (.tuple #[b4 A B C D, .bool (plZ k g h x y)]) ∧ Below w.heap.size w w' := by
 unfold plZ
 cases sh : shB k g h with
 | false => exact (placedOf_n k g h x y w sh).mono fun e w' ⟨h1, h2⟩ => ⟨0, 0, 0, 0, h1, h2⟩
 | true =>
  cases p1 : inB 2560000 x y with
  | false => exact (placedOf_p k g h x y w sh p1).mono fun e w' ⟨h1, h2⟩ => ⟨0, 0, 0, 0, h1, h2⟩
  | true =>
   rcases shB_kinds sh with ⟨rfl, rfl, a0, a1⟩ | ⟨rfl, a0, a1, a2, a3⟩
   · exact (placedOf_r g x y w ⟨a0, a1⟩ p1).mono fun e w' ⟨h1, h2⟩ => ⟨_, _, _, _, h1, h2⟩
   · exact (placedOf_b g h x y w ⟨a0, a1⟩ ⟨a2, a3⟩ p1).mono fun e w' ⟨h1, h2⟩ => ⟨_, _, _, _, h1, h2⟩
theorem touch_rr (g1 g2 x y u v X Y D : Int) (J : Bool) (w : World) (lg1 : 1 ≤ g1 ∧ g1 ≤ 25600) (lg2 : 1 ≤ g2 ∧ g2 ≤ 25600) (p1 : inB 2560000 x y = true) (p2 : inB 2560000 u v = true) (s1 : shB 1 g1 0 = true) (s2 : shB 1 g2 0 = true) (e : toT 1 g1 0 x y 1 g2 0 u v = ((X, Y, D), J)) :
 Calls Tryz.prog 136 #[s3 1 g1 0, vv x y, s3 1 g2 0, vv u v] w fun e w' => e = .returned (.tuple #[s3 X Y D, .bool J]) ∧ Below w.heap.size w w' := by
 have hset := cset_map
 obtain ⟨⟨x0, x1⟩, y0, y1⟩ := inB_of p1
 obtain ⟨⟨u0, u1⟩, v0, v1⟩ := inB_of p2
 have e3 : rdT (u - x) (v - y) (g1 + g2) = ((X, Y, D), J) := by rw [← e]; unfold toT tcT; rw [if_pos (by simp [*])]; rfl
 clear e
 go_enter Tryz.func136, Tryz.ntmps136
 go_upto_region 5 with (first
  | (have _ := hb1; go_at_call 149; refine (placedOf_r g2 u v _ (by omega) p2).mono ?_; rintro e w2 ⟨rfl, hb2⟩; have hz2 := hb2.size; (try simp only [zz] at hz2); have := kf5 hb2 w.heap.size; have := kfa hb2 w1.heap.size)
  | (go_at_call 149; refine (placedOf_r g1 x y _ (by omega) p1).mono ?_; rintro e w1 ⟨rfl, hb1⟩; have hz1 := hb1.size; (try simp only [zz] at hz1); have := kf5 hb1 w.heap.size))
 refine wp_region_held_drew (S := fun w' => w'.cell? ⟨w.heap.size, 0, none⟩ = some (.int .i64 1) ∧ w'.cell? ⟨w.heap.size + 1 + 1, 0, none⟩ = some (.int .i64 1) ∧ w'.cell? ⟨w1.heap.size, 0, none⟩ = some (.int .i64 x) ∧ w'.cell? ⟨w1.heap.size, 1, none⟩ = some (.int .i64 y) ∧ w'.cell? ⟨w1.heap.size, 2, none⟩ = some (.int .i64 g1) ∧ w'.cell? ⟨w1.heap.size, 3, none⟩ = some (.int .i64 g1) ∧ w'.cell? ⟨w2.heap.size, 0, none⟩ = some (.int .i64 u) ∧ w'.cell? ⟨w2.heap.size, 1, none⟩ = some (.int .i64 v) ∧ w'.cell? ⟨w2.heap.size, 2, none⟩ = some (.int .i64 g2) ∧ w'.cell? ⟨w2.heap.size, 3, none⟩ = some (.int .i64 g2)) (by kernel_rfl) ?_ (fun hHeld => ?_)
 · (try dsimp only)
   (first | (go_simp; done) | (go_keep; done))
 refine tq 0 hHeld ?_
 refine tq 1 hHeld ?_
 refine tq 2 hHeld ?_
 refine tq 3 hHeld ?_
 refine tq 5 hHeld ?_
 refine tq 6 hHeld ?_
 refine wpAnyH_ready (rs := [4, 11]) (by kernel_rfl) (by simp) ?_
 refine AllReadyH.cons rfl (fun K hK => ?_) (AllReadyH.cons rfl (fun K hK => ?_) AllReadyH.nil)
 focus
  (go_simp; (go_at_call 150; refine (toucherOf_rr _).mono ?_; rintro e w3 ⟨rfl, hb3⟩; obtain ⟨hc3, hf3⟩ := bcell hb3; have hz3 := hb3.size; (try simp only [zz] at hc3 hf3 hz3); have := kf5 hb3 w.heap.size; have := kfa hb3 w1.heap.size; have := kfa hb3 w2.heap.size; (try have q := kfy hc3 hf3 hz3 (w2.heap.size + 1) (by omega); obtain ⟨hk3y0, hj3y0, hq3y0, hr3y0, ht3y0⟩ := q); clear hc3 hf3); (try go_wp2_with fail); refine tr hK (fun hHeld => ?_); clear hK K)
  refine wpAnyH_ready (rs := [7, 11]) (by kernel_rfl) (by simp) ?_
  refine AllReadyH.cons rfl (fun K hK => ?_) (AllReadyH.cons rfl (fun K hK => ?_) AllReadyH.nil)
  focus
   (go_simp; (go_at_call 162; refine (roundsTouch_q _ _ _ _ _ _ _ _ X Y D _ _ (by omega) (by omega) (by omega) (by omega) (by omega) (by omega) e3).mono ?_; rintro e w4 ⟨rfl, hb4⟩; obtain ⟨hc4, hf4⟩ := bcell hb4; have hz4 := hb4.size; (try simp only [zz] at hc4 hf4 hz4); have := kf5 hb4 w.heap.size; have := kfa hb4 w1.heap.size; have := kfa hb4 w2.heap.size; (try have q := kfy hc4 hf4 hz4 (w2.heap.size + 1) (by omega); obtain ⟨hk4y0, hj4y0, hq4y0, hr4y0, ht4y0⟩ := q); (try have q := kfy hc4 hf4 hz4 (w3.heap.size) (by omega); obtain ⟨hk4y1, hj4y1, hq4y1, hr4y1, ht4y1⟩ := q); clear hc4 hf4); (try go_wp2_with fail); refine tr hK (fun hHeld => ?_); clear hK K)
   refine tq 8 hHeld ?_
   refine tq 9 hHeld ?_
   refine tq 10 hHeld ?_
   (refine tc 11 fun K hK => ?_; go_simp; refine tr hK (fun hHeld => ?_); clear hK K)
  rotate_left
  focus
   (go_simp; refine tr hK (fun hHeld => ?_); clear hK K)
   (refine tc 7 fun K hK => ?_; go_simp; (go_at_call 162; refine (roundsTouch_q _ _ _ _ _ _ _ _ X Y D _ _ (by omega) (by omega) (by omega) (by omega) (by omega) (by omega) e3).mono ?_; rintro e w4 ⟨rfl, hb4⟩; obtain ⟨hc4, hf4⟩ := bcell hb4; have hz4 := hb4.size; (try simp only [zz] at hc4 hf4 hz4); have := kf5 hb4 w.heap.size; have := kfa hb4 w1.heap.size; have := kfa hb4 w2.heap.size; (try have q := kfy hc4 hf4 hz4 (w2.heap.size + 1) (by omega); obtain ⟨hk4y0, hj4y0, hq4y0, hr4y0, ht4y0⟩ := q); (try have q := kfy hc4 hf4 hz4 (w3.heap.size) (by omega); obtain ⟨hk4y1, hj4y1, hq4y1, hr4y1, ht4y1⟩ := q); clear hc4 hf4); (try go_wp2_with fail); refine tr hK (fun hHeld => ?_); clear hK K)
   refine tq 8 hHeld ?_
   refine tq 9 hHeld ?_
   refine tq 10 hHeld ?_
 rotate_left 2
 focus
  (go_simp; refine tr hK (fun hHeld => ?_); clear hK K)
  (refine tc 4 fun K hK => ?_; go_simp; (go_at_call 150; refine (toucherOf_rr _).mono ?_; rintro e w3 ⟨rfl, hb3⟩; obtain ⟨hc3, hf3⟩ := bcell hb3; have hz3 := hb3.size; (try simp only [zz] at hc3 hf3 hz3); have := kf5 hb3 w.heap.size; have := kfa hb3 w1.heap.size; have := kfa hb3 w2.heap.size; (try have q := kfy hc3 hf3 hz3 (w2.heap.size + 1) (by omega); obtain ⟨hk3y0, hj3y0, hq3y0, hr3y0, ht3y0⟩ := q); clear hc3 hf3); (try go_wp2_with fail); refine tr hK (fun hHeld => ?_); clear hK K)
  (refine tc 7 fun K hK => ?_; go_simp; (go_at_call 162; refine (roundsTouch_q _ _ _ _ _ _ _ _ X Y D _ _ (by omega) (by omega) (by omega) (by omega) (by omega) (by omega) e3).mono ?_; rintro e w4 ⟨rfl, hb4⟩; obtain ⟨hc4, hf4⟩ := bcell hb4; have hz4 := hb4.size; (try simp only [zz] at hc4 hf4 hz4); have := kf5 hb4 w.heap.size; have := kfa hb4 w1.heap.size; have := kfa hb4 w2.heap.size; (try have q := kfy hc4 hf4 hz4 (w2.heap.size + 1) (by omega); obtain ⟨hk4y0, hj4y0, hq4y0, hr4y0, ht4y0⟩ := q); (try have q := kfy hc4 hf4 hz4 (w3.heap.size) (by omega); obtain ⟨hk4y1, hj4y1, hq4y1, hr4y1, ht4y1⟩ := q); clear hc4 hf4); (try go_wp2_with fail); refine tr hK (fun hHeld => ?_); clear hK K)
  refine tq 8 hHeld ?_
  refine tq 9 hHeld ?_
  refine tq 10 hHeld ?_
 all_goals
  (refine tc 12 fun K hK => ?_; go_simp; refine tr hK (fun hHeld => ?_); clear hK K)
  refine tq 13 hHeld ?_
  refine wpAnyH_done (by kernel_rfl) ?_ _
  go_wp2_with (go_at_call 151; refine (dentHit_q _ _ _ _).mono ?_; rintro e w5 ⟨rfl, hb5⟩; obtain ⟨hc5, hf5⟩ := bcell hb5; have hz5 := hb5.size; (try simp only [zz] at hc5 hf5 hz5); have := kf5 hb5 w.heap.size; (try have q := kfy hc5 hf5 hz5 (w2.heap.size + 1) (by omega); obtain ⟨hk5y0, hj5y0, hq5y0, hr5y0, ht5y0⟩ := q); (try have q := kfy hc5 hf5 hz5 (w3.heap.size) (by omega); obtain ⟨hk5y1, hj5y1, hq5y1, hr5y1, ht5y1⟩ := q); (try have q := kfy hc5 hf5 hz5 (w4.heap.size) (by omega); obtain ⟨hk5y2, hj5y2, hq5y2, hr5y2, ht5y2⟩ := q); clear hc5 hf5)
  exact bodyPost_ret (v := .tuple #[s3 X Y D, .bool J]) (by simp [results, Tryz.results136, go_sem, *]) rfl ⟨rfl, bel_a⟩
theorem touch_rb (g1 g2 h2 x y u v X Y D : Int) (J : Bool) (w : World) (lg1 : 1 ≤ g1 ∧ g1 ≤ 25600) (lg2 : 1 ≤ g2 ∧ g2 ≤ 25600) (lh2 : 1 ≤ h2 ∧ h2 ≤ 25600) (p1 : inB 2560000 x y = true) (p2 : inB 2560000 u v = true) (s1 : shB 1 g1 0 = true) (s2 : shB 2 g2 h2 = true) (e : toT 1 g1 0 x y 2 g2 h2 u v = ((X, Y, D), J)) :
 Calls Tryz.prog 136 #[s3 1 g1 0, vv x y, s3 2 g2 h2, vv u v] w fun e w' => e = .returned (.tuple #[s3 X Y D, .bool J]) ∧ Below w.heap.size w w' := by
 have hset := cset_map
 obtain ⟨⟨x0, x1⟩, y0, y1⟩ := inB_of p1
 obtain ⟨⟨u0, u1⟩, v0, v1⟩ := inB_of p2
 have e3 : tnT (mxT (u - g2) (v - h2) (u + g2) (v + h2) x y g1) = ((X, Y, D), J) := by rw [← e]; unfold toT tcT; rw [if_pos (by simp [*])]; rfl
 clear e
 go_enter Tryz.func136, Tryz.ntmps136
 go_upto_region 5 with (first
  | (have _ := hb1; go_at_call 149; refine (placedOf_b g2 h2 u v _ (by omega) (by omega) p2).mono ?_; rintro e w2 ⟨rfl, hb2⟩; have hz2 := hb2.size; (try simp only [zz] at hz2); have := kf5 hb2 w.heap.size; have := kfa hb2 w1.heap.size)
  | (go_at_call 149; refine (placedOf_r g1 x y _ (by omega) p1).mono ?_; rintro e w1 ⟨rfl, hb1⟩; have hz1 := hb1.size; (try simp only [zz] at hz1); have := kf5 hb1 w.heap.size))
 refine wp_region_held_drew (S := fun w' => w'.cell? ⟨w.heap.size, 0, none⟩ = some (.int .i64 1) ∧ w'.cell? ⟨w.heap.size + 1 + 1, 0, none⟩ = some (.int .i64 2) ∧ w'.cell? ⟨w1.heap.size, 0, none⟩ = some (.int .i64 x) ∧ w'.cell? ⟨w1.heap.size, 1, none⟩ = some (.int .i64 y) ∧ w'.cell? ⟨w1.heap.size, 2, none⟩ = some (.int .i64 g1) ∧ w'.cell? ⟨w1.heap.size, 3, none⟩ = some (.int .i64 g1) ∧ w'.cell? ⟨w2.heap.size, 0, none⟩ = some (.int .i64 u) ∧ w'.cell? ⟨w2.heap.size, 1, none⟩ = some (.int .i64 v) ∧ w'.cell? ⟨w2.heap.size, 2, none⟩ = some (.int .i64 g2) ∧ w'.cell? ⟨w2.heap.size, 3, none⟩ = some (.int .i64 h2)) (by kernel_rfl) ?_ (fun hHeld => ?_)
 · (try dsimp only)
   (first | (go_simp; done) | (go_keep; done))
 refine tq 0 hHeld ?_
 refine tq 1 hHeld ?_
 refine tq 2 hHeld ?_
 refine tq 3 hHeld ?_
 refine tq 5 hHeld ?_
 refine tq 6 hHeld ?_
 refine wpAnyH_ready (rs := [4, 11]) (by kernel_rfl) (by simp) ?_
 refine AllReadyH.cons rfl (fun K hK => ?_) (AllReadyH.cons rfl (fun K hK => ?_) AllReadyH.nil)
 focus
  (go_simp; (go_at_call 150; refine (toucherOf_rb _).mono ?_; rintro e w3 ⟨rfl, hb3⟩; obtain ⟨hc3, hf3⟩ := bcell hb3; have hz3 := hb3.size; (try simp only [zz] at hc3 hf3 hz3); have := kf5 hb3 w.heap.size; have := kfa hb3 w1.heap.size; have := kfa hb3 w2.heap.size; (try have q := kfy hc3 hf3 hz3 (w2.heap.size + 1) (by omega); obtain ⟨hk3y0, hj3y0, hq3y0, hr3y0, ht3y0⟩ := q); clear hc3 hf3); (try go_wp2_with fail); refine tr hK (fun hHeld => ?_); clear hK K)
  refine wpAnyH_ready (rs := [7, 11]) (by kernel_rfl) (by simp) ?_
  refine AllReadyH.cons rfl (fun K hK => ?_) (AllReadyH.cons rfl (fun K hK => ?_) AllReadyH.nil)
  focus
   (go_simp; (go_at_call 163; refine (roundTouchesBox_q _ _ _ _ _ _ _ _ X Y D _ _ (by omega) (by omega) (by omega) (by omega) (by omega) (by omega) (by omega) e3).mono ?_; rintro e w4 ⟨rfl, hb4⟩; obtain ⟨hc4, hf4⟩ := bcell hb4; have hz4 := hb4.size; (try simp only [zz] at hc4 hf4 hz4); have := kf5 hb4 w.heap.size; have := kfa hb4 w1.heap.size; have := kfa hb4 w2.heap.size; (try have q := kfy hc4 hf4 hz4 (w2.heap.size + 1) (by omega); obtain ⟨hk4y0, hj4y0, hq4y0, hr4y0, ht4y0⟩ := q); (try have q := kfy hc4 hf4 hz4 (w3.heap.size) (by omega); obtain ⟨hk4y1, hj4y1, hq4y1, hr4y1, ht4y1⟩ := q); clear hc4 hf4); (try go_wp2_with fail); refine tr hK (fun hHeld => ?_); clear hK K)
   refine tq 8 hHeld ?_
   refine tq 9 hHeld ?_
   refine tq 10 hHeld ?_
   (refine tc 11 fun K hK => ?_; go_simp; refine tr hK (fun hHeld => ?_); clear hK K)
  rotate_left
  focus
   (go_simp; refine tr hK (fun hHeld => ?_); clear hK K)
   (refine tc 7 fun K hK => ?_; go_simp; (go_at_call 163; refine (roundTouchesBox_q _ _ _ _ _ _ _ _ X Y D _ _ (by omega) (by omega) (by omega) (by omega) (by omega) (by omega) (by omega) e3).mono ?_; rintro e w4 ⟨rfl, hb4⟩; obtain ⟨hc4, hf4⟩ := bcell hb4; have hz4 := hb4.size; (try simp only [zz] at hc4 hf4 hz4); have := kf5 hb4 w.heap.size; have := kfa hb4 w1.heap.size; have := kfa hb4 w2.heap.size; (try have q := kfy hc4 hf4 hz4 (w2.heap.size + 1) (by omega); obtain ⟨hk4y0, hj4y0, hq4y0, hr4y0, ht4y0⟩ := q); (try have q := kfy hc4 hf4 hz4 (w3.heap.size) (by omega); obtain ⟨hk4y1, hj4y1, hq4y1, hr4y1, ht4y1⟩ := q); clear hc4 hf4); (try go_wp2_with fail); refine tr hK (fun hHeld => ?_); clear hK K)
   refine tq 8 hHeld ?_
   refine tq 9 hHeld ?_
   refine tq 10 hHeld ?_
 rotate_left 2
 focus
  (go_simp; refine tr hK (fun hHeld => ?_); clear hK K)
  (refine tc 4 fun K hK => ?_; go_simp; (go_at_call 150; refine (toucherOf_rb _).mono ?_; rintro e w3 ⟨rfl, hb3⟩; obtain ⟨hc3, hf3⟩ := bcell hb3; have hz3 := hb3.size; (try simp only [zz] at hc3 hf3 hz3); have := kf5 hb3 w.heap.size; have := kfa hb3 w1.heap.size; have := kfa hb3 w2.heap.size; (try have q := kfy hc3 hf3 hz3 (w2.heap.size + 1) (by omega); obtain ⟨hk3y0, hj3y0, hq3y0, hr3y0, ht3y0⟩ := q); clear hc3 hf3); (try go_wp2_with fail); refine tr hK (fun hHeld => ?_); clear hK K)
  (refine tc 7 fun K hK => ?_; go_simp; (go_at_call 163; refine (roundTouchesBox_q _ _ _ _ _ _ _ _ X Y D _ _ (by omega) (by omega) (by omega) (by omega) (by omega) (by omega) (by omega) e3).mono ?_; rintro e w4 ⟨rfl, hb4⟩; obtain ⟨hc4, hf4⟩ := bcell hb4; have hz4 := hb4.size; (try simp only [zz] at hc4 hf4 hz4); have := kf5 hb4 w.heap.size; have := kfa hb4 w1.heap.size; have := kfa hb4 w2.heap.size; (try have q := kfy hc4 hf4 hz4 (w2.heap.size + 1) (by omega); obtain ⟨hk4y0, hj4y0, hq4y0, hr4y0, ht4y0⟩ := q); (try have q := kfy hc4 hf4 hz4 (w3.heap.size) (by omega); obtain ⟨hk4y1, hj4y1, hq4y1, hr4y1, ht4y1⟩ := q); clear hc4 hf4); (try go_wp2_with fail); refine tr hK (fun hHeld => ?_); clear hK K)
  refine tq 8 hHeld ?_
  refine tq 9 hHeld ?_
  refine tq 10 hHeld ?_
 all_goals
  (refine tc 12 fun K hK => ?_; go_simp; refine tr hK (fun hHeld => ?_); clear hK K)
  refine tq 13 hHeld ?_
  refine wpAnyH_done (by kernel_rfl) ?_ _
  go_wp2_with (go_at_call 151; refine (dentHit_q _ _ _ _).mono ?_; rintro e w5 ⟨rfl, hb5⟩; obtain ⟨hc5, hf5⟩ := bcell hb5; have hz5 := hb5.size; (try simp only [zz] at hc5 hf5 hz5); have := kf5 hb5 w.heap.size; (try have q := kfy hc5 hf5 hz5 (w2.heap.size + 1) (by omega); obtain ⟨hk5y0, hj5y0, hq5y0, hr5y0, ht5y0⟩ := q); (try have q := kfy hc5 hf5 hz5 (w3.heap.size) (by omega); obtain ⟨hk5y1, hj5y1, hq5y1, hr5y1, ht5y1⟩ := q); (try have q := kfy hc5 hf5 hz5 (w4.heap.size) (by omega); obtain ⟨hk5y2, hj5y2, hq5y2, hr5y2, ht5y2⟩ := q); clear hc5 hf5)
  exact bodyPost_ret (v := .tuple #[s3 X Y D, .bool J]) (by simp [results, Tryz.results136, go_sem, *]) rfl ⟨rfl, bel_a⟩
theorem touch_br (g1 h1 g2 x y u v X Y D : Int) (J : Bool) (w : World) (lg1 : 1 ≤ g1 ∧ g1 ≤ 25600) (lh1 : 1 ≤ h1 ∧ h1 ≤ 25600) (lg2 : 1 ≤ g2 ∧ g2 ≤ 25600) (p1 : inB 2560000 x y = true) (p2 : inB 2560000 u v = true) (s1 : shB 2 g1 h1 = true) (s2 : shB 1 g2 0 = true) (e : toT 2 g1 h1 x y 1 g2 0 u v = ((X, Y, D), J)) :
 Calls Tryz.prog 136 #[s3 2 g1 h1, vv x y, s3 1 g2 0, vv u v] w fun e w' => e = .returned (.tuple #[s3 X Y D, .bool J]) ∧ Below w.heap.size w w' := by
 have hset := cset_map
 obtain ⟨⟨x0, x1⟩, y0, y1⟩ := inB_of p1
 obtain ⟨⟨u0, u1⟩, v0, v1⟩ := inB_of p2
 have e3 : mxT (x - g1) (y - h1) (x + g1) (y + h1) u v g2 = ((X, Y, D), J) := by rw [← e]; unfold toT tcT; rw [if_pos (by simp [*])]; rfl
 clear e
 go_enter Tryz.func136, Tryz.ntmps136
 go_upto_region 5 with (first
  | (have _ := hb1; go_at_call 149; refine (placedOf_r g2 u v _ (by omega) p2).mono ?_; rintro e w2 ⟨rfl, hb2⟩; have hz2 := hb2.size; (try simp only [zz] at hz2); have := kf5 hb2 w.heap.size; have := kfa hb2 w1.heap.size)
  | (go_at_call 149; refine (placedOf_b g1 h1 x y _ (by omega) (by omega) p1).mono ?_; rintro e w1 ⟨rfl, hb1⟩; have hz1 := hb1.size; (try simp only [zz] at hz1); have := kf5 hb1 w.heap.size))
 refine wp_region_held_drew (S := fun w' => w'.cell? ⟨w.heap.size, 0, none⟩ = some (.int .i64 2) ∧ w'.cell? ⟨w.heap.size + 1 + 1, 0, none⟩ = some (.int .i64 1) ∧ w'.cell? ⟨w1.heap.size, 0, none⟩ = some (.int .i64 x) ∧ w'.cell? ⟨w1.heap.size, 1, none⟩ = some (.int .i64 y) ∧ w'.cell? ⟨w1.heap.size, 2, none⟩ = some (.int .i64 g1) ∧ w'.cell? ⟨w1.heap.size, 3, none⟩ = some (.int .i64 h1) ∧ w'.cell? ⟨w2.heap.size, 0, none⟩ = some (.int .i64 u) ∧ w'.cell? ⟨w2.heap.size, 1, none⟩ = some (.int .i64 v) ∧ w'.cell? ⟨w2.heap.size, 2, none⟩ = some (.int .i64 g2) ∧ w'.cell? ⟨w2.heap.size, 3, none⟩ = some (.int .i64 g2)) (by kernel_rfl) ?_ (fun hHeld => ?_)
 · (try dsimp only)
   (first | (go_simp; done) | (go_keep; done))
 refine tq 0 hHeld ?_
 refine tq 1 hHeld ?_
 refine tq 2 hHeld ?_
 refine tq 3 hHeld ?_
 refine tq 5 hHeld ?_
 refine tq 6 hHeld ?_
 refine wpAnyH_ready (rs := [4, 11]) (by kernel_rfl) (by simp) ?_
 refine AllReadyH.cons rfl (fun K hK => ?_) (AllReadyH.cons rfl (fun K hK => ?_) AllReadyH.nil)
 focus
  (go_simp; (go_at_call 150; refine (toucherOf_br _).mono ?_; rintro e w3 ⟨rfl, hb3⟩; obtain ⟨hc3, hf3⟩ := bcell hb3; have hz3 := hb3.size; (try simp only [zz] at hc3 hf3 hz3); have := kf5 hb3 w.heap.size; have := kfa hb3 w1.heap.size; have := kfa hb3 w2.heap.size; (try have q := kfy hc3 hf3 hz3 (w2.heap.size + 1) (by omega); obtain ⟨hk3y0, hj3y0, hq3y0, hr3y0, ht3y0⟩ := q); clear hc3 hf3); (try go_wp2_with fail); refine tr hK (fun hHeld => ?_); clear hK K)
  refine wpAnyH_ready (rs := [7, 11]) (by kernel_rfl) (by simp) ?_
  refine AllReadyH.cons rfl (fun K hK => ?_) (AllReadyH.cons rfl (fun K hK => ?_) AllReadyH.nil)
  focus
   (go_simp; (go_at_call 164; refine (boxTouchesRound_q _ _ _ _ _ _ _ _ X Y D _ _ (by omega) (by omega) (by omega) (by omega) (by omega) (by omega) (by omega) e3).mono ?_; rintro e w4 ⟨rfl, hb4⟩; obtain ⟨hc4, hf4⟩ := bcell hb4; have hz4 := hb4.size; (try simp only [zz] at hc4 hf4 hz4); have := kf5 hb4 w.heap.size; have := kfa hb4 w1.heap.size; have := kfa hb4 w2.heap.size; (try have q := kfy hc4 hf4 hz4 (w2.heap.size + 1) (by omega); obtain ⟨hk4y0, hj4y0, hq4y0, hr4y0, ht4y0⟩ := q); (try have q := kfy hc4 hf4 hz4 (w3.heap.size) (by omega); obtain ⟨hk4y1, hj4y1, hq4y1, hr4y1, ht4y1⟩ := q); clear hc4 hf4); (try go_wp2_with fail); refine tr hK (fun hHeld => ?_); clear hK K)
   refine tq 8 hHeld ?_
   refine tq 9 hHeld ?_
   refine tq 10 hHeld ?_
   (refine tc 11 fun K hK => ?_; go_simp; refine tr hK (fun hHeld => ?_); clear hK K)
  rotate_left
  focus
   (go_simp; refine tr hK (fun hHeld => ?_); clear hK K)
   (refine tc 7 fun K hK => ?_; go_simp; (go_at_call 164; refine (boxTouchesRound_q _ _ _ _ _ _ _ _ X Y D _ _ (by omega) (by omega) (by omega) (by omega) (by omega) (by omega) (by omega) e3).mono ?_; rintro e w4 ⟨rfl, hb4⟩; obtain ⟨hc4, hf4⟩ := bcell hb4; have hz4 := hb4.size; (try simp only [zz] at hc4 hf4 hz4); have := kf5 hb4 w.heap.size; have := kfa hb4 w1.heap.size; have := kfa hb4 w2.heap.size; (try have q := kfy hc4 hf4 hz4 (w2.heap.size + 1) (by omega); obtain ⟨hk4y0, hj4y0, hq4y0, hr4y0, ht4y0⟩ := q); (try have q := kfy hc4 hf4 hz4 (w3.heap.size) (by omega); obtain ⟨hk4y1, hj4y1, hq4y1, hr4y1, ht4y1⟩ := q); clear hc4 hf4); (try go_wp2_with fail); refine tr hK (fun hHeld => ?_); clear hK K)
   refine tq 8 hHeld ?_
   refine tq 9 hHeld ?_
   refine tq 10 hHeld ?_
 rotate_left 2
 focus
  (go_simp; refine tr hK (fun hHeld => ?_); clear hK K)
  (refine tc 4 fun K hK => ?_; go_simp; (go_at_call 150; refine (toucherOf_br _).mono ?_; rintro e w3 ⟨rfl, hb3⟩; obtain ⟨hc3, hf3⟩ := bcell hb3; have hz3 := hb3.size; (try simp only [zz] at hc3 hf3 hz3); have := kf5 hb3 w.heap.size; have := kfa hb3 w1.heap.size; have := kfa hb3 w2.heap.size; (try have q := kfy hc3 hf3 hz3 (w2.heap.size + 1) (by omega); obtain ⟨hk3y0, hj3y0, hq3y0, hr3y0, ht3y0⟩ := q); clear hc3 hf3); (try go_wp2_with fail); refine tr hK (fun hHeld => ?_); clear hK K)
  (refine tc 7 fun K hK => ?_; go_simp; (go_at_call 164; refine (boxTouchesRound_q _ _ _ _ _ _ _ _ X Y D _ _ (by omega) (by omega) (by omega) (by omega) (by omega) (by omega) (by omega) e3).mono ?_; rintro e w4 ⟨rfl, hb4⟩; obtain ⟨hc4, hf4⟩ := bcell hb4; have hz4 := hb4.size; (try simp only [zz] at hc4 hf4 hz4); have := kf5 hb4 w.heap.size; have := kfa hb4 w1.heap.size; have := kfa hb4 w2.heap.size; (try have q := kfy hc4 hf4 hz4 (w2.heap.size + 1) (by omega); obtain ⟨hk4y0, hj4y0, hq4y0, hr4y0, ht4y0⟩ := q); (try have q := kfy hc4 hf4 hz4 (w3.heap.size) (by omega); obtain ⟨hk4y1, hj4y1, hq4y1, hr4y1, ht4y1⟩ := q); clear hc4 hf4); (try go_wp2_with fail); refine tr hK (fun hHeld => ?_); clear hK K)
  refine tq 8 hHeld ?_
  refine tq 9 hHeld ?_
  refine tq 10 hHeld ?_
 all_goals
  (refine tc 12 fun K hK => ?_; go_simp; refine tr hK (fun hHeld => ?_); clear hK K)
  refine tq 13 hHeld ?_
  refine wpAnyH_done (by kernel_rfl) ?_ _
  go_wp2_with (go_at_call 151; refine (dentHit_q _ _ _ _).mono ?_; rintro e w5 ⟨rfl, hb5⟩; obtain ⟨hc5, hf5⟩ := bcell hb5; have hz5 := hb5.size; (try simp only [zz] at hc5 hf5 hz5); have := kf5 hb5 w.heap.size; (try have q := kfy hc5 hf5 hz5 (w2.heap.size + 1) (by omega); obtain ⟨hk5y0, hj5y0, hq5y0, hr5y0, ht5y0⟩ := q); (try have q := kfy hc5 hf5 hz5 (w3.heap.size) (by omega); obtain ⟨hk5y1, hj5y1, hq5y1, hr5y1, ht5y1⟩ := q); (try have q := kfy hc5 hf5 hz5 (w4.heap.size) (by omega); obtain ⟨hk5y2, hj5y2, hq5y2, hr5y2, ht5y2⟩ := q); clear hc5 hf5)
  exact bodyPost_ret (v := .tuple #[s3 X Y D, .bool J]) (by simp [results, Tryz.results136, go_sem, *]) rfl ⟨rfl, bel_a⟩
theorem touch_bb (g1 h1 g2 h2 x y u v X Y D : Int) (J : Bool) (w : World) (lg1 : 1 ≤ g1 ∧ g1 ≤ 25600) (lh1 : 1 ≤ h1 ∧ h1 ≤ 25600) (lg2 : 1 ≤ g2 ∧ g2 ≤ 25600) (lh2 : 1 ≤ h2 ∧ h2 ≤ 25600) (p1 : inB 2560000 x y = true) (p2 : inB 2560000 u v = true) (s1 : shB 2 g1 h1 = true) (s2 : shB 2 g2 h2 = true) (e : toT 2 g1 h1 x y 2 g2 h2 u v = ((X, Y, D), J)) :
 Calls Tryz.prog 136 #[s3 2 g1 h1, vv x y, s3 2 g2 h2, vv u v] w fun e w' => e = .returned (.tuple #[s3 X Y D, .bool J]) ∧ Below w.heap.size w w' := by
 have hset := cset_map
 obtain ⟨⟨x0, x1⟩, y0, y1⟩ := inB_of p1
 obtain ⟨⟨u0, u1⟩, v0, v1⟩ := inB_of p2
 have e3 : bxT (x - g1) (y - h1) (x + g1) (y + h1) (u - g2) (v - h2) (u + g2) (v + h2) = ((X, Y, D), J) := by rw [← e]; unfold toT tcT; rw [if_pos (by simp [*])]; rfl
 clear e
 go_enter Tryz.func136, Tryz.ntmps136
 go_upto_region 5 with (first
  | (have _ := hb1; go_at_call 149; refine (placedOf_b g2 h2 u v _ (by omega) (by omega) p2).mono ?_; rintro e w2 ⟨rfl, hb2⟩; have hz2 := hb2.size; (try simp only [zz] at hz2); have := kf5 hb2 w.heap.size; have := kfa hb2 w1.heap.size)
  | (go_at_call 149; refine (placedOf_b g1 h1 x y _ (by omega) (by omega) p1).mono ?_; rintro e w1 ⟨rfl, hb1⟩; have hz1 := hb1.size; (try simp only [zz] at hz1); have := kf5 hb1 w.heap.size))
 refine wp_region_held_drew (S := fun w' => w'.cell? ⟨w.heap.size, 0, none⟩ = some (.int .i64 2) ∧ w'.cell? ⟨w.heap.size + 1 + 1, 0, none⟩ = some (.int .i64 2) ∧ w'.cell? ⟨w1.heap.size, 0, none⟩ = some (.int .i64 x) ∧ w'.cell? ⟨w1.heap.size, 1, none⟩ = some (.int .i64 y) ∧ w'.cell? ⟨w1.heap.size, 2, none⟩ = some (.int .i64 g1) ∧ w'.cell? ⟨w1.heap.size, 3, none⟩ = some (.int .i64 h1) ∧ w'.cell? ⟨w2.heap.size, 0, none⟩ = some (.int .i64 u) ∧ w'.cell? ⟨w2.heap.size, 1, none⟩ = some (.int .i64 v) ∧ w'.cell? ⟨w2.heap.size, 2, none⟩ = some (.int .i64 g2) ∧ w'.cell? ⟨w2.heap.size, 3, none⟩ = some (.int .i64 h2)) (by kernel_rfl) ?_ (fun hHeld => ?_)
 · (try dsimp only)
   (first | (go_simp; done) | (go_keep; done))
 refine tq 0 hHeld ?_
 refine tq 1 hHeld ?_
 refine tq 2 hHeld ?_
 refine tq 3 hHeld ?_
 refine tq 5 hHeld ?_
 refine tq 6 hHeld ?_
 refine wpAnyH_ready (rs := [4, 11]) (by kernel_rfl) (by simp) ?_
 refine AllReadyH.cons rfl (fun K hK => ?_) (AllReadyH.cons rfl (fun K hK => ?_) AllReadyH.nil)
 focus
  (go_simp; (go_at_call 150; refine (toucherOf_bb _).mono ?_; rintro e w3 ⟨rfl, hb3⟩; obtain ⟨hc3, hf3⟩ := bcell hb3; have hz3 := hb3.size; (try simp only [zz] at hc3 hf3 hz3); have := kf5 hb3 w.heap.size; have := kfa hb3 w1.heap.size; have := kfa hb3 w2.heap.size; (try have q := kfy hc3 hf3 hz3 (w2.heap.size + 1) (by omega); obtain ⟨hk3y0, hj3y0, hq3y0, hr3y0, ht3y0⟩ := q); clear hc3 hf3); (try go_wp2_with fail); refine tr hK (fun hHeld => ?_); clear hK K)
  refine wpAnyH_ready (rs := [7, 11]) (by kernel_rfl) (by simp) ?_
  refine AllReadyH.cons rfl (fun K hK => ?_) (AllReadyH.cons rfl (fun K hK => ?_) AllReadyH.nil)
  focus
   (go_simp; (go_at_call 165; refine (boxesTouch_q _ _ _ _ _ _ _ _ X Y D _ _ (by omega) (by omega) (by omega) (by omega) (by omega) (by omega) (by omega) (by omega) e3).mono ?_; rintro e w4 ⟨rfl, hb4⟩; obtain ⟨hc4, hf4⟩ := bcell hb4; have hz4 := hb4.size; (try simp only [zz] at hc4 hf4 hz4); have := kf5 hb4 w.heap.size; have := kfa hb4 w1.heap.size; have := kfa hb4 w2.heap.size; (try have q := kfy hc4 hf4 hz4 (w2.heap.size + 1) (by omega); obtain ⟨hk4y0, hj4y0, hq4y0, hr4y0, ht4y0⟩ := q); (try have q := kfy hc4 hf4 hz4 (w3.heap.size) (by omega); obtain ⟨hk4y1, hj4y1, hq4y1, hr4y1, ht4y1⟩ := q); clear hc4 hf4); (try go_wp2_with fail); refine tr hK (fun hHeld => ?_); clear hK K)
   refine tq 8 hHeld ?_
   refine tq 9 hHeld ?_
   refine tq 10 hHeld ?_
   (refine tc 11 fun K hK => ?_; go_simp; refine tr hK (fun hHeld => ?_); clear hK K)
  rotate_left
  focus
   (go_simp; refine tr hK (fun hHeld => ?_); clear hK K)
   (refine tc 7 fun K hK => ?_; go_simp; (go_at_call 165; refine (boxesTouch_q _ _ _ _ _ _ _ _ X Y D _ _ (by omega) (by omega) (by omega) (by omega) (by omega) (by omega) (by omega) (by omega) e3).mono ?_; rintro e w4 ⟨rfl, hb4⟩; obtain ⟨hc4, hf4⟩ := bcell hb4; have hz4 := hb4.size; (try simp only [zz] at hc4 hf4 hz4); have := kf5 hb4 w.heap.size; have := kfa hb4 w1.heap.size; have := kfa hb4 w2.heap.size; (try have q := kfy hc4 hf4 hz4 (w2.heap.size + 1) (by omega); obtain ⟨hk4y0, hj4y0, hq4y0, hr4y0, ht4y0⟩ := q); (try have q := kfy hc4 hf4 hz4 (w3.heap.size) (by omega); obtain ⟨hk4y1, hj4y1, hq4y1, hr4y1, ht4y1⟩ := q); clear hc4 hf4); (try go_wp2_with fail); refine tr hK (fun hHeld => ?_); clear hK K)
   refine tq 8 hHeld ?_
   refine tq 9 hHeld ?_
   refine tq 10 hHeld ?_
 rotate_left 2
 focus
  (go_simp; refine tr hK (fun hHeld => ?_); clear hK K)
  (refine tc 4 fun K hK => ?_; go_simp; (go_at_call 150; refine (toucherOf_bb _).mono ?_; rintro e w3 ⟨rfl, hb3⟩; obtain ⟨hc3, hf3⟩ := bcell hb3; have hz3 := hb3.size; (try simp only [zz] at hc3 hf3 hz3); have := kf5 hb3 w.heap.size; have := kfa hb3 w1.heap.size; have := kfa hb3 w2.heap.size; (try have q := kfy hc3 hf3 hz3 (w2.heap.size + 1) (by omega); obtain ⟨hk3y0, hj3y0, hq3y0, hr3y0, ht3y0⟩ := q); clear hc3 hf3); (try go_wp2_with fail); refine tr hK (fun hHeld => ?_); clear hK K)
  (refine tc 7 fun K hK => ?_; go_simp; (go_at_call 165; refine (boxesTouch_q _ _ _ _ _ _ _ _ X Y D _ _ (by omega) (by omega) (by omega) (by omega) (by omega) (by omega) (by omega) (by omega) e3).mono ?_; rintro e w4 ⟨rfl, hb4⟩; obtain ⟨hc4, hf4⟩ := bcell hb4; have hz4 := hb4.size; (try simp only [zz] at hc4 hf4 hz4); have := kf5 hb4 w.heap.size; have := kfa hb4 w1.heap.size; have := kfa hb4 w2.heap.size; (try have q := kfy hc4 hf4 hz4 (w2.heap.size + 1) (by omega); obtain ⟨hk4y0, hj4y0, hq4y0, hr4y0, ht4y0⟩ := q); (try have q := kfy hc4 hf4 hz4 (w3.heap.size) (by omega); obtain ⟨hk4y1, hj4y1, hq4y1, hr4y1, ht4y1⟩ := q); clear hc4 hf4); (try go_wp2_with fail); refine tr hK (fun hHeld => ?_); clear hK K)
  refine tq 8 hHeld ?_
  refine tq 9 hHeld ?_
  refine tq 10 hHeld ?_
 all_goals
  (refine tc 12 fun K hK => ?_; go_simp; refine tr hK (fun hHeld => ?_); clear hK K)
  refine tq 13 hHeld ?_
  refine wpAnyH_done (by kernel_rfl) ?_ _
  go_wp2_with (go_at_call 151; refine (dentHit_q _ _ _ _).mono ?_; rintro e w5 ⟨rfl, hb5⟩; obtain ⟨hc5, hf5⟩ := bcell hb5; have hz5 := hb5.size; (try simp only [zz] at hc5 hf5 hz5); have := kf5 hb5 w.heap.size; (try have q := kfy hc5 hf5 hz5 (w2.heap.size + 1) (by omega); obtain ⟨hk5y0, hj5y0, hq5y0, hr5y0, ht5y0⟩ := q); (try have q := kfy hc5 hf5 hz5 (w3.heap.size) (by omega); obtain ⟨hk5y1, hj5y1, hq5y1, hr5y1, ht5y1⟩ := q); (try have q := kfy hc5 hf5 hz5 (w4.heap.size) (by omega); obtain ⟨hk5y2, hj5y2, hq5y2, hr5y2, ht5y2⟩ := q); clear hc5 hf5)
  exact bodyPost_ret (v := .tuple #[s3 X Y D, .bool J]) (by simp [results, Tryz.results136, go_sem, *]) rfl ⟨rfl, bel_a⟩
end Go.Proofs.YtmnhankcbkfhaaaGreatDoor
