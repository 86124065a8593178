/- Texts of a proof. -/
import Derived.Test.YtfiaokkolcodgaaGreatDrawBk
import Derived.Deep.RegionHeld3
import Derived.Deep.DeepCutAuto
import Derived.Test.YtfiaokkolcodgaaGreatB25
import Derived.Test.YtfiaokkolcodgaaGreatB24
import Derived.Test.YtfiaokkolcodgaaGreatB7
import Derived.Test.YtfiaokkolcodgaaGreatB9
import Derived.Test.YtfiaokkolcodgaaGreatB1
set_option maxHeartbeats 16000000
set_option maxRecDepth 20000
namespace Go.Proofs.YtfiaokkolcodgaaGreat
open Go.RowKit
set_option linter.unusedVariables false
set_option linter.unusedSimpArgs false
theorem Rd.upto {w w' : World} {rb p B : Nat} (h : Rd w rb p) (k : Below B w w') (hB : rb < B) : Rd w' rb p := by
 obtain ⟨a, len, cap, c0, c1, f1, hle, hz⟩ := h
 refine ⟨a, len, cap, by rw [k.cell hB]; exact c0, by rw [k.cell hB]; exact c1, by rw [k.frozen hB]; exact f1, hle, ?_⟩
 rcases hz with hz | ⟨b, off, ha, hb, hz⟩
 · exact .inl hz
 · exact .inr ⟨b, off, ha, hb, fun i hi => by obtain ⟨z, h1, h2⟩ := hz i hi; exact ⟨z, by rw [k.cell (p := ⟨b, off + i, none⟩) (by show b < B; omega)]; exact h1, h2⟩⟩
theorem RS.upto {w w' : World} {rb p B : Nat} (h : RS w rb p) (k : Below B w w') (hB : rb < B) : RS w' rb p := by
 obtain ⟨q, a, b⟩ := h; exact ⟨q, a, b.upto k hB⟩
theorem OwnL.but {w w' : World} {rb base t k n : Nat} {v : Value} {U : Nat → Int} (h : OwnL w base t k v n U) (hb : But rb w w') (hr : rb < base) : OwnL w' base t k v n U := by
 have hg : w.grownBy w' (Option.some rb) := ⟨hb.os, hb.tape, hb.output, hb.size, fun j hj hne => hb.block j hj (fun e => hne (by rw [e]))⟩
 cases e : v.ownBlock with
 | none => exact World.ownsRow.kept h hg (.inl e)
 | some b => exact World.ownsRow.kept h hg (.inr (by rw [e]; intro q; have := (h.lt b e).1; simp at q; omega))
structure Dg (w wr : World) (rb p : Nat) (v : Value) (n : Nat) (U : Nat → Int) (L : Bls) : Prop where
 bl : BL w wr rb p L
 own : OwnL wr w.heap.size 35 12 v n U
 ne : ∀ x ∈ L, v.ownBlock ≠ some x.1
theorem Dg.call {w wr w1 : World} {rb p p1 n : Nat} {v : Value} {U : Nat → Int} {L : Bls} (h : Dg w wr rb p v n U L) (k : RB wr w1 rb p1) : Dg w w1 rb p1 v n U L := ⟨h.bl.call k, h.own.but k.but h.bl.lo, h.ne⟩
theorem Dg.calb {w wr w1 : World} {rb p n : Nat} {v : Value} {U : Nat → Int} {L : Bls} (h : Dg w wr rb p v n U L) (k : Below wr.heap.size wr w1) : Dg w w1 rb p v n U L := ⟨h.bl.calb k, h.own.below k, h.ne⟩
theorem Dg.mono {w wr : World} {rb p p1 n : Nat} {v : Value} {U : Nat → Int} {L : Bls} (h : Dg w wr rb p v n U L) (k : p ≤ p1) : Dg w wr rb p1 v n U L := ⟨h.bl.mono k, h.own, h.ne⟩
theorem Dg.drew {w wr : World} {rb p n : Nat} {v : Value} {U : Nat → Int} {L : Bls} (h : Dg w wr rb p v n U L) : Dg w wr.drew rb p v n U L := ⟨h.bl.drew, h.own.drewO, h.ne⟩
theorem Dg.sub {w wr : World} {rb p n : Nat} {v : Value} {U : Nat → Int} {L M : Bls} (h : Dg w wr rb p v n U L) (k : ∀ x ∈ M, x ∈ L) : Dg w wr rb p v n U M := ⟨h.bl.sub k, h.own, fun x hx => h.ne x (k x hx)⟩
theorem Dg.new {w wr : World} {rb p n : Nat} {v : Value} {U : Nat → Int} {L : Bls} (h : Dg w wr rb p v n U L) (b m : Nat) (V : Nat → Int) {cs : Array Value} {t : TypeId} (hb : b = wr.heap.size) (hc : ∀ i, i < m → cs[i]? = some (.int .i64 (V i))) : Dg w (wr.alloc (.cells cs t)) rb p v n U ((b, m, V) :: L) :=
 ⟨h.bl.new b m V hb hc, h.own.below (balloc _ _), fun x hx => by
  rcases List.mem_cons.mp hx with rfl | hx
  · intro e; have := (h.own.lt _ e).2; dsimp only at this; omega
  · exact h.ne x hx⟩
theorem Dg.set {w wr : World} {rb p n b m : Nat} {v : Value} {U V : Nat → Int} {L : Bls} (h : Dg w wr rb p v n U ((b, m, V) :: L)) (hne : ∀ x ∈ L, x.1 ≠ b) (k : Nat) (hk : k < m) (z : Int) : Dg w (wr.setCell ⟨b, k, none⟩ (.int .i64 z)) rb p v n U ((b, m, fun j => if j = k then z else V j) :: L) :=
 ⟨h.bl.set hne k hk z, h.own.frame (Fr.setCell (X := fun j => j = b) rfl _) (fun j e x => by subst x; exact h.ne (j, m, V) (List.mem_cons_self ..) e), fun x hx => by
  rcases List.mem_cons.mp hx with rfl | hx
  · exact h.ne (b, m, V) (List.mem_cons_self ..)
  · exact h.ne x (List.mem_cons_of_mem _ hx)⟩
theorem Dg.headc {w wr : World} {rb p n b m : Nat} {v : Value} {U V V' : Nat → Int} {L : Bls} (h : Dg w wr rb p v n U ((b, m, V) :: L)) (k : ∀ i, i < m → V i = V' i) : Dg w wr rb p v n U ((b, m, V') :: L) :=
 ⟨h.bl.headc k, h.own, fun x hx => by
  rcases List.mem_cons.mp hx with rfl | hx
  · exact h.ne (b, m, V) (List.mem_cons_self ..)
  · exact h.ne x (List.mem_cons_of_mem _ hx)⟩
theorem Dg.grown {w wr w' : World} {rb p n n' : Nat} {v v' : Value} {U U' : Nat → Int} {L : Bls} (h : Dg w wr rb p v n U L) (hg : wr.grownBy w' v.ownBlock) (ho : OwnL w' w.heap.size 35 12 v' n' U') : Dg w w' rb p v' n' U' [] := by
 have hsz := h.bl.but.size
 have hB : Below w.heap.size wr w' := (Below.refl w.heap.size wr).grown hg hsz (fun b e => (h.own.lt b e).1)
 exact ⟨⟨h.bl.rs.upto hB h.bl.lo, ⟨hB.os.trans h.bl.but.os, hB.tape.trans h.bl.but.tape, hB.output.trans h.bl.but.output, Nat.le_trans hsz hB.size, fun k hk hn => (hB.block k hk).trans (h.bl.but.block k hk hn)⟩, h.bl.lo, fun x hx => by cases hx⟩, ho, fun x hx => by cases hx⟩
theorem Dg.start {w : World} {rb p : Nat} (h : RS w rb p) (U : Nat → Int) : Dg w (w.alloc (.cells #[] 35)) rb p (.slice (some ⟨w.heap.size, 0, none⟩) 0 0) 0 U [] :=
 ⟨(BL.start h).alloc _, OwnL.fresh0 w w.heap.size 35 12 U _ rfl (Nat.le_refl _), fun x hx => by cases hx⟩
theorem Bods.push {n : Nat} {U V : Nat → Int} (h : Bods n U) (hn : n < 12) (hV : bodyB V = true) (hi : ∀ k, k < n → U (k * 12) < V 0) : Bods (n + 1) (cat (n * 12) U V) := by
 have a1 : ∀ k j, k < n → j < 12 → cat (n * 12) U V (k * 12 + j) = U (k * 12 + j) := fun k j hk hj => by unfold cat; rw [if_pos (by omega)]
 have a2 : ∀ j, cat (n * 12) U V (n * 12 + j) = V j := fun j => by unfold cat; rw [if_neg (by omega), Nat.add_sub_cancel_left]
 refine ⟨hn, fun k hk => ?_, fun k hk => ?_⟩
 · by_cases e : k = n
   · subst e; rw [bodyB_cong (fun j _ => a2 j)]; exact hV
   · rw [bodyB_cong (fun j hj => a1 k j (by omega) hj)]; exact h.ok k (by omega)
 · have b1 := a1 k 0 (by omega) (by omega)
   rw [Nat.add_zero] at b1
   rw [b1]
   by_cases e : k + 1 = n
   · have b2 := a2 0; rw [Nat.add_zero] at b2; rw [e, b2]; exact hi k (by omega)
   · have b2 := a1 (k + 1) 0 (by omega) (by omega); rw [Nat.add_zero] at b2; rw [b2]; exact h.asc k (by omega)
theorem bod_at {V : Nat → Int} (h : bodyB V = true) {x y : Int} (hx : -2560000 ≤ x ∧ x ≤ 2560000) (hy : -2560000 ≤ y ∧ y ≤ 2560000) : bodyB (setV (setV V 4 x) 5 y) = true := by
 unfold bodyB at h ⊢
 have e : inB 2560000 x y = true := by unfold inB; simp; omega
 have r : restB (setV (setV V 4 x) 5 y) = restB V := rfl
 show (decide (0 ≤ V 0 ∧ V 0 ≤ 999999999) && (shB (V 1) (V 2) (V 3) && (inB 2560000 x y && _))) = true
 simp only [Bool.and_eq_true] at h ⊢
 exact ⟨h.1, h.2.1, e, h.2.2.2⟩
def B2 (x : Int) : Prop := -2000000000 ≤ x ∧ x ≤ 2000000000
def HN (X Y D : Int) : Prop := B2 X ∧ B2 Y
theorem l11Hit_s (rb p : Nat) (w : World) (hs0 : RS w rb p) (hp : p ≤ 900000) :
 Calls Tryz.prog 18 #[.pointer (some ⟨rb, 0, none⟩)] w fun e w' => ∃ X Y D : Int, e = .returned (s3 X Y D) ∧ HN X Y D ∧ RB w w' rb (p + 200) := by
 have hlt := hs0.lt
 have hset := cset_map
 have hB : BL w (w.alloc (.cells #[.int .i64 0, .int .i64 0, .int .i64 0] 37)) rb p [(w.heap.size, 3, (fun _ => 0))] := (BL.start hs0).new _ 3 (fun _ => 0) rfl (by intro i hi; rcases (show i = 0 ∨ i = 1 ∨ i = 2 by omega) with rfl | rfl | rfl <;> rfl)
 go_enter Tryz.func18, Tryz.ntmps18
 go_upto_region 1 with fail
 have hz0 : w.heap.size < (w.alloc (.cells #[.int .i64 0, .int .i64 0, .int .i64 0] 37)).heap.size := by simp
 generalize w.alloc (.cells #[.int .i64 0, .int .i64 0, .int .i64 0] 37) = w0 at *
 go_cut [3] (fun s3 wc => ∃ (hb : Nat) (X Y D : Int), s3 = .pointer (some ⟨hb, 0, none⟩) ∧ HN X Y D ∧ (w.heap.size < hb) ∧ BL w wc rb (p + 100) [(hb, 3, (fun j => [X, Y, D].getD j 0)), (w.heap.size, 3, (fun _ => 0))])
 case first =>
  go_wp2_with (first
  | (have _ := hr5; go_at_call 36; refine (one_s (0) 4 rb (p + 40) _ _ _ _ _ (by exact (hD5.mono (p1 := p + 40) (by omega)).rs) (by omega) (by repeat (first | exact AllBd.nil | refine AllBd.cons (by omega) (by omega) ?_)) (by rfl) (by omega) (by omega)).mono ?_; rintro e w6 ⟨v6, rfl, va6, vb6, hr6⟩; have hD6 := hD5.call hr6; have hm6 := mul_bd (a := v5) (b := v6) (A := 256) (B := 4) (by omega) (by omega); have hw6 := i64w (n := v5 * v6) (by omega))
  | (have _ := hb4; go_at_call 17; refine (pick_s rb (p + 30) _ _ (by exact (hD4.mono (p1 := p + 30) (by omega)).rs) (by omega) (by omega) (by omega)).mono ?_; rintro e w5 ⟨v5, rfl, va5, vb5, hr5⟩; have hD5 := hD4.call hr5)
  | (go_at_call 35; refine (sunit_q _ _ _ _ _ rfl rfl).mono ?_; rintro e w4 ⟨rfl, hb4⟩; have hD4 := hD3.calb hb4)
  | (have _ := hr2; go_at_call 17; refine (pick_s rb (p + 20) _ _ (by exact (hD2.mono (p1 := p + 20) (by omega)).rs) (by omega) (by omega) (by omega)).mono ?_; rintro e w3 ⟨v3, rfl, va3, vb3, hr3⟩; have hD3 := hD2.call hr3; have hw3 := i64w (n := v3 - 32) (by omega))
  | (go_at_call 17; refine (pick_s rb (p + 10) _ _ (by exact (hB.mono (p1 := p + 10) (by omega)).rs) (by omega) (by omega) (by omega)).mono ?_; rintro e w2 ⟨v2, rfl, va2, vb2, hr2⟩; have hD2 := hB.call hr2; have hw2 := i64w (n := v2 - 32) (by omega)))
  go_meet
  have hl : w.heap.size < w6.heap.size := hD6.lt (x := (w.heap.size, 3, (fun _ => 0))) (by simp)
  have f1 : fc (v2 - 32) = v2 - 32 := fc_id (by omega) (by omega)
  have f2 : fc (v3 - 32) = v3 - 32 := fc_id (by omega) (by omega)
  have u1 := ux_bd2 (x := fc (v2 - 32)) (y := fc (v3 - 32)) (by rw [f1]; omega)
  have u2 := uy_bd2 (x := fc (v2 - 32)) (y := fc (v3 - 32)) (by rw [f2]; omega)
  exact ⟨_, ux (fc (v2 - 32)) (fc (v3 - 32)), uy (fc (v2 - 32)) (fc (v3 - 32)), v5 * v6, rfl, ⟨⟨by omega, by omega⟩, ⟨by omega, by omega⟩⟩, hl, (hD6.new _ 3 _ rfl (by intro i hi; rcases (show i = 0 ∨ i = 1 ∨ i = 2 by omega) with rfl | rfl | rfl <;> rfl)).mono (by omega)⟩
 case rest =>
 clear hB hz0
 obtain ⟨hb, X, Y, D, rfl, ⟨hX, hY⟩, lhb, hD⟩ := hcut
 go_upto_region 2 with fail
 go_cut [20] (fun s20 wc => ∃ v7 : Int, s20 = .int .i64 v7 ∧ BL w wc rb (p + 110) [(hb, 3, (fun j => [X, Y, D].getD j 0)), (w.heap.size, 3, (fun _ => 0))])
 case first =>
  go_wp2_with (go_at_call 17; refine (pick_s rb (p + 100) _ _ (by exact (hD.mono (p1 := p + 100) (by omega)).rs) (by omega) (by omega) (by omega)).mono ?_; rintro e w7 ⟨v7, rfl, va7, vb7, hr7⟩; have hD7 := hD.call hr7)
  go_meet
  exact ⟨_, rfl, hD7.mono (by omega)⟩
 case rest =>
 clear hD
 obtain ⟨v7, rfl, hD⟩ := hcut
 rename_i hKK
 refine hKK _ _ ?_
 go_cut [] (fun wc => ∃ X Y D : Int, HN X Y D ∧ BL w wc rb (p + 200) [(hb, 3, (fun j => [X, Y, D].getD j 0)), (w.heap.size, 3, (fun _ => 0))])
 case first =>
  have hne : (w.heap.size = hb) = False := eq_false (by omega)
  have ga0 : Al w wc (hb) 3 (fun j => [X, Y, D].getD j 0) := hD.get (x := (hb, 3, (fun j => [X, Y, D].getD j 0))) (by simp)
  have cax0c0 := (ga0).2.2.1 0 (by omega)
  have cax0f0 := (ga0).2.2.2 0 (by omega)
  have cax0c1 := (ga0).2.2.1 1 (by omega)
  have cax0f1 := (ga0).2.2.2 1 (by omega)
  have cax0c2 := (ga0).2.2.1 2 (by omega)
  have cax0f2 := (ga0).2.2.2 2 (by omega)
  clear ga0
  go_upto_region 7 with (go_at_call 36; refine (one_s (-257) 102401 rb (p + 120) _ _ _ _ _ (by exact (hD.mono (p1 := p + 120) (by omega)).rs) (by omega) (by repeat (first | exact AllBd.nil | refine AllBd.cons (by omega) (by omega) ?_)) (by rfl) (by omega) (by omega)).mono ?_; rintro e w8 ⟨v8, rfl, va8, vb8, hr8⟩; have hD8 := hD.call hr8; have gb0 : Al w w8 (hb) 3 (fun j => [X, Y, D].getD j 0) := hD8.get (x := (hb, 3, (fun j => [X, Y, D].getD j 0))) (by simp); have cbx0c0 := (gb0).2.2.1 0 (by omega); have cbx0f0 := (gb0).2.2.2 0 (by omega); have cbx0c1 := (gb0).2.2.1 1 (by omega); have cbx0f1 := (gb0).2.2.2 1 (by omega); have cbx0c2 := (gb0).2.2.1 2 (by omega); have cbx0f2 := (gb0).2.2.2 2 (by omega); clear gb0)
  · go_meet
    exact ⟨v8, Y, D, ⟨⟨by omega, by omega⟩, hY⟩, ((hD8.set (by intro x hx; simp only [List.mem_cons, List.not_mem_nil, or_false] at hx; rcases hx with rfl <;> dsimp only <;> omega) 0 (by omega) v8).headc (by intro i hi; rcases (show i = 0 ∨ i = 1 ∨ i = 2 by omega) with rfl | rfl | rfl <;> rfl)).mono (by omega)⟩
  · go_meet
    exact ⟨X, Y, v8, ⟨hX, hY⟩, ((hD8.set (by intro x hx; simp only [List.mem_cons, List.not_mem_nil, or_false] at hx; rcases hx with rfl <;> dsimp only <;> omega) 2 (by omega) v8).headc (by intro i hi; rcases (show i = 0 ∨ i = 1 ∨ i = 2 by omega) with rfl | rfl | rfl <;> rfl)).mono (by omega)⟩
  · go_meet
    exact ⟨X, Y, D, ⟨hX, hY⟩, hD.mono (by omega)⟩
 case rest =>
 clear hD hX hY X Y D
 obtain ⟨X, Y, D, hXY, hD⟩ := hcut
 have gz0 : Al w wc (hb) 3 (fun j => [X, Y, D].getD j 0) := hD.get (x := (hb, 3, (fun j => [X, Y, D].getD j 0))) (by simp)
 have czx0c0 := (gz0).2.2.1 0 (by omega)
 have czx0f0 := (gz0).2.2.2 0 (by omega)
 have czx0c1 := (gz0).2.2.1 1 (by omega)
 have czx0f1 := (gz0).2.2.2 1 (by omega)
 have czx0c2 := (gz0).2.2.1 2 (by omega)
 have czx0f2 := (gz0).2.2.2 2 (by omega)
 clear gz0
 have gz1 : Al w wc (w.heap.size) 3 (fun _ => 0) := hD.get (x := (w.heap.size, 3, (fun _ => 0))) (by simp)
 have czx1c0 := (gz1).2.2.1 0 (by omega)
 have czx1f0 := (gz1).2.2.2 0 (by omega)
 have czx1c1 := (gz1).2.2.1 1 (by omega)
 have czx1f1 := (gz1).2.2.2 1 (by omega)
 have czx1c2 := (gz1).2.2.1 2 (by omega)
 have czx1f2 := (gz1).2.2.2 2 (by omega)
 clear gz1
 have hne : (w.heap.size = hb) = False := eq_false (by omega)
 go_wp2_with fail
 exact bodyPost_ret (v := s3 X Y D) (by simp [results, Tryz.results18, go_sem, *]) rfl ⟨X, Y, D, rfl, hXY, RB.mk (((hD.but.setNew (by simp) _).setNew (by simp) _).setNew (by simp) _) (((hD.rs.setNew (by simp; omega) _).setNew (by simp; omega) _).setNew (by simp; omega) _)⟩
theorem run_eq_shape (n d : Nat) (hn : n = d + 1) (a b c : Int) (w : World) : (Op.equalIn (n + 1) 31 (.agg #[.int .i64 a, .int .i64 b, .int .i64 c]) (.agg #[.int .i64 a, .int .i64 b, .int .i64 c])).run Tryz.prog w = .ok true w := by
 have hi : Tryz.prog.underlying 3 = some (.int .i64) := by kernel_rfl
 have hs : Tryz.prog.stoodInHeld 31 = false := by kernel_rfl
 have hp : ∀ w, (program).run Tryz.prog w = .ok Tryz.prog w := fun w => by rfl
 have p0 : ∀ (a b c : Int) w, (part 3 #[.int .i64 a, .int .i64 b, .int .i64 c] 0).run Tryz.prog w = .ok (.int .i64 a) w := fun a b c w => by kernel_rfl
 have p1 : ∀ (a b c : Int) w, (part 3 #[.int .i64 a, .int .i64 b, .int .i64 c] 1).run Tryz.prog w = .ok (.int .i64 b) w := fun a b c w => by kernel_rfl
 have p2 : ∀ (a b c : Int) w, (part 3 #[.int .i64 a, .int .i64 b, .int .i64 c] 2).run Tryz.prog w = .ok (.int .i64 c) w := fun a b c w => by kernel_rfl
 simp only [Op.equalIn, Sem.run_bind, run_underlying Tryz.underlying31, Result.andThen_ok, hp, hs, Bool.false_eq_true, if_false, Sem.run_pure]
 subst hn
 have h0 : ∀ w, (Op.equalIn (d + 1) 3 (.int .i64 a) (.int .i64 a)).run Tryz.prog w = .ok true w := fun w => by rw [run_equalIn_int w (d + 0) 3 .i64 .i64 a a hi]; simp
 have h1 : ∀ w, (Op.equalIn (d + 1) 3 (.int .i64 b) (.int .i64 b)).run Tryz.prog w = .ok true w := fun w => by rw [run_equalIn_int w (d + 0) 3 .i64 .i64 b b hi]; simp
 have h2 : ∀ w, (Op.equalIn (d + 1) 3 (.int .i64 c) (.int .i64 c)).run Tryz.prog w = .ok true w := fun w => by rw [run_equalIn_int w (d + 0) 3 .i64 .i64 c c hi]; simp
 simp only [List.forIn_toArray, List.forIn_cons, List.forIn_nil, Sem.run_bind, p0, h0, Result.andThen_ok, Sem.run_ite, Sem.run_pure]
 simp [Sem.run_bind, p0, h0, p1, h1, p2, h2, Sem.run_ite]
theorem run_eq_body (n d : Nat) (hn : n = d + 3) (x0 x1 x2 x3 x4 x5 x6 x7 x8 x9 x10 x11 : Int) (w : World) : (Op.equalIn (n + 1) 35 (.agg #[.int .i64 x0, .int .i64 x1, .int .i64 x2, .int .i64 x3, .int .i64 x4, .int .i64 x5, .int .i64 x6, .int .i64 x7, .int .i64 x8, .int .i64 x9, .int .i64 x10, .int .i64 x11]) (.agg #[.int .i64 x0, .int .i64 x1, .int .i64 x2, .int .i64 x3, .int .i64 x4, .int .i64 x5, .int .i64 x6, .int .i64 x7, .int .i64 x8, .int .i64 x9, .int .i64 x10, .int .i64 x11])).run Tryz.prog w = .ok true w := by
 have hi : Tryz.prog.underlying 3 = some (.int .i64) := by kernel_rfl
 have hs : Tryz.prog.stoodInHeld 35 = false := by kernel_rfl
 have hp : ∀ w, (program).run Tryz.prog w = .ok Tryz.prog w := fun w => by rfl
 have p0 : ∀ (x0 x1 x2 x3 x4 x5 x6 x7 x8 x9 x10 x11 : Int) w, (part 3 #[.int .i64 x0, .int .i64 x1, .int .i64 x2, .int .i64 x3, .int .i64 x4, .int .i64 x5, .int .i64 x6, .int .i64 x7, .int .i64 x8, .int .i64 x9, .int .i64 x10, .int .i64 x11] 0).run Tryz.prog w = .ok (.int .i64 x0) w := fun x0 x1 x2 x3 x4 x5 x6 x7 x8 x9 x10 x11 w => by kernel_rfl
 have p1 : ∀ (x0 x1 x2 x3 x4 x5 x6 x7 x8 x9 x10 x11 : Int) w, (part 31 #[.int .i64 x0, .int .i64 x1, .int .i64 x2, .int .i64 x3, .int .i64 x4, .int .i64 x5, .int .i64 x6, .int .i64 x7, .int .i64 x8, .int .i64 x9, .int .i64 x10, .int .i64 x11] 1).run Tryz.prog w = .ok (.agg #[.int .i64 x1, .int .i64 x2, .int .i64 x3]) w := fun x0 x1 x2 x3 x4 x5 x6 x7 x8 x9 x10 x11 w => by kernel_rfl
 have p2 : ∀ (x0 x1 x2 x3 x4 x5 x6 x7 x8 x9 x10 x11 : Int) w, (part 33 #[.int .i64 x0, .int .i64 x1, .int .i64 x2, .int .i64 x3, .int .i64 x4, .int .i64 x5, .int .i64 x6, .int .i64 x7, .int .i64 x8, .int .i64 x9, .int .i64 x10, .int .i64 x11] 4).run Tryz.prog w = .ok (.agg #[.int .i64 x4, .int .i64 x5]) w := fun x0 x1 x2 x3 x4 x5 x6 x7 x8 x9 x10 x11 w => by kernel_rfl
 have p3 : ∀ (x0 x1 x2 x3 x4 x5 x6 x7 x8 x9 x10 x11 : Int) w, (part 33 #[.int .i64 x0, .int .i64 x1, .int .i64 x2, .int .i64 x3, .int .i64 x4, .int .i64 x5, .int .i64 x6, .int .i64 x7, .int .i64 x8, .int .i64 x9, .int .i64 x10, .int .i64 x11] 6).run Tryz.prog w = .ok (.agg #[.int .i64 x6, .int .i64 x7]) w := fun x0 x1 x2 x3 x4 x5 x6 x7 x8 x9 x10 x11 w => by kernel_rfl
 have p4 : ∀ (x0 x1 x2 x3 x4 x5 x6 x7 x8 x9 x10 x11 : Int) w, (part 3 #[.int .i64 x0, .int .i64 x1, .int .i64 x2, .int .i64 x3, .int .i64 x4, .int .i64 x5, .int .i64 x6, .int .i64 x7, .int .i64 x8, .int .i64 x9, .int .i64 x10, .int .i64 x11] 8).run Tryz.prog w = .ok (.int .i64 x8) w := fun x0 x1 x2 x3 x4 x5 x6 x7 x8 x9 x10 x11 w => by kernel_rfl
 have p5 : ∀ (x0 x1 x2 x3 x4 x5 x6 x7 x8 x9 x10 x11 : Int) w, (part 3 #[.int .i64 x0, .int .i64 x1, .int .i64 x2, .int .i64 x3, .int .i64 x4, .int .i64 x5, .int .i64 x6, .int .i64 x7, .int .i64 x8, .int .i64 x9, .int .i64 x10, .int .i64 x11] 9).run Tryz.prog w = .ok (.int .i64 x9) w := fun x0 x1 x2 x3 x4 x5 x6 x7 x8 x9 x10 x11 w => by kernel_rfl
 have p6 : ∀ (x0 x1 x2 x3 x4 x5 x6 x7 x8 x9 x10 x11 : Int) w, (part 3 #[.int .i64 x0, .int .i64 x1, .int .i64 x2, .int .i64 x3, .int .i64 x4, .int .i64 x5, .int .i64 x6, .int .i64 x7, .int .i64 x8, .int .i64 x9, .int .i64 x10, .int .i64 x11] 10).run Tryz.prog w = .ok (.int .i64 x10) w := fun x0 x1 x2 x3 x4 x5 x6 x7 x8 x9 x10 x11 w => by kernel_rfl
 have p7 : ∀ (x0 x1 x2 x3 x4 x5 x6 x7 x8 x9 x10 x11 : Int) w, (part 3 #[.int .i64 x0, .int .i64 x1, .int .i64 x2, .int .i64 x3, .int .i64 x4, .int .i64 x5, .int .i64 x6, .int .i64 x7, .int .i64 x8, .int .i64 x9, .int .i64 x10, .int .i64 x11] 11).run Tryz.prog w = .ok (.int .i64 x11) w := fun x0 x1 x2 x3 x4 x5 x6 x7 x8 x9 x10 x11 w => by kernel_rfl
 simp only [Op.equalIn, Sem.run_bind, run_underlying Tryz.underlying35, Result.andThen_ok, hp, hs, Bool.false_eq_true, if_false, Sem.run_pure]
 subst hn
 have h0 : ∀ w, (Op.equalIn (d + 3) 3 (.int .i64 x0) (.int .i64 x0)).run Tryz.prog w = .ok true w := fun w => by rw [run_equalIn_int w (d + 2) 3 .i64 .i64 x0 x0 hi]; simp
 have h1 : ∀ w, (Op.equalIn (d + 3) 31 (.agg #[.int .i64 x1, .int .i64 x2, .int .i64 x3]) (.agg #[.int .i64 x1, .int .i64 x2, .int .i64 x3])).run Tryz.prog w = .ok true w := fun w => run_eq_shape (d + 2) (d + 1) rfl x1 x2 x3 w
 have h2 : ∀ w, (Op.equalIn (d + 3) 33 (.agg #[.int .i64 x4, .int .i64 x5]) (.agg #[.int .i64 x4, .int .i64 x5])).run Tryz.prog w = .ok true w := fun w => by rw [run_eq_vec (d + 2) (d + 1) rfl]; simp
 have h3 : ∀ w, (Op.equalIn (d + 3) 33 (.agg #[.int .i64 x6, .int .i64 x7]) (.agg #[.int .i64 x6, .int .i64 x7])).run Tryz.prog w = .ok true w := fun w => by rw [run_eq_vec (d + 2) (d + 1) rfl]; simp
 have h4 : ∀ w, (Op.equalIn (d + 3) 3 (.int .i64 x8) (.int .i64 x8)).run Tryz.prog w = .ok true w := fun w => by rw [run_equalIn_int w (d + 2) 3 .i64 .i64 x8 x8 hi]; simp
 have h5 : ∀ w, (Op.equalIn (d + 3) 3 (.int .i64 x9) (.int .i64 x9)).run Tryz.prog w = .ok true w := fun w => by rw [run_equalIn_int w (d + 2) 3 .i64 .i64 x9 x9 hi]; simp
 have h6 : ∀ w, (Op.equalIn (d + 3) 3 (.int .i64 x10) (.int .i64 x10)).run Tryz.prog w = .ok true w := fun w => by rw [run_equalIn_int w (d + 2) 3 .i64 .i64 x10 x10 hi]; simp
 have h7 : ∀ w, (Op.equalIn (d + 3) 3 (.int .i64 x11) (.int .i64 x11)).run Tryz.prog w = .ok true w := fun w => by rw [run_equalIn_int w (d + 2) 3 .i64 .i64 x11 x11 hi]; simp
 simp only [List.forIn_toArray, List.forIn_cons, List.forIn_nil, Sem.run_bind, p0, h0, Result.andThen_ok, Sem.run_ite, Sem.run_pure]
 simp [Sem.run_bind, p0, h0, p1, h1, p2, h2, p3, h3, p4, h4, p5, h5, p6, h6, p7, h7, Sem.run_ite]
theorem eq_body0 (x0 x1 x2 x3 x4 x5 x6 x7 x8 x9 x10 x11 : Int) (w : World) : (Op.equalIn 10000 35 (.agg #[.int .i64 x0, .int .i64 x1, .int .i64 x2, .int .i64 x3, .int .i64 x4, .int .i64 x5, .int .i64 x6, .int .i64 x7, .int .i64 x8, .int .i64 x9, .int .i64 x10, .int .i64 x11]) (.agg #[.int .i64 x0, .int .i64 x1, .int .i64 x2, .int .i64 x3, .int .i64 x4, .int .i64 x5, .int .i64 x6, .int .i64 x7, .int .i64 x8, .int .i64 x9, .int .i64 x10, .int .i64 x11])).run Tryz.prog w = .ok true w := run_eq_body 9999 9996 rfl x0 x1 x2 x3 x4 x5 x6 x7 x8 x9 x10 x11 w
theorem pqBodies_same (a a' : Option Addr) (N c c' : Nat) (R : Nat → Int) (w : World) (h : Flat w a (N * 12) R) (h' : Flat w a' (N * 12) R) (hN : N ≤ 1000) :
 Calls Tryz.prog 7 #[.slice a N c, .slice a' N c'] w fun e w' => e = .returned (.bool true) ∧ Below w.heap.size w w' := by
 have hset := cset_map
 have e0 : ((N : Int) != (N : Int)) = false := by simp
 go_enter Tryz.func7, Tryz.ntmps7
 go_upto_region 4 with fail
 go_loopw [5] (fun s wr => ∃ k : Nat, k ≤ N ∧ s = .int .i64 (k : Int) ∧ Below w.heap.size w wr) (fun s _ => N - (intOf s).toNat)
 case atStart => exact ⟨0, Nat.zero_le _, rfl, Below.refl _ _⟩
 case round =>
  obtain ⟨k, hk, rfl, hw⟩ := hrel
  by_cases hlt : k < N
  · have hkN : (k : Int) < (N : Int) := by omega
    obtain ⟨b1, o1, e1, _, hc1⟩ := (h.below hw) (by omega)
    obtain ⟨b2, o2, e2, _, hc2⟩ := (h'.below hw) (by omega)
    have r0 : wr.cell? ⟨b1, o1 + k * 12, none⟩ = some (.int .i64 (R (k * 12))) := by have q := hc1 (k * 12 + 0) (by omega); rw [← Nat.add_assoc] at q; exact q
    have s0 : wr.cell? ⟨b2, o2 + k * 12, none⟩ = some (.int .i64 (R (k * 12))) := by have q := hc2 (k * 12 + 0) (by omega); rw [← Nat.add_assoc] at q; exact q
    have r1 : wr.cell? ⟨b1, o1 + k * 12 + 1, none⟩ = some (.int .i64 (R (k * 12 + 1))) := by have q := hc1 (k * 12 + 1) (by omega); rw [← Nat.add_assoc] at q; exact q
    have s1 : wr.cell? ⟨b2, o2 + k * 12 + 1, none⟩ = some (.int .i64 (R (k * 12 + 1))) := by have q := hc2 (k * 12 + 1) (by omega); rw [← Nat.add_assoc] at q; exact q
    have r2 : wr.cell? ⟨b1, o1 + k * 12 + 2, none⟩ = some (.int .i64 (R (k * 12 + 2))) := by have q := hc1 (k * 12 + 2) (by omega); rw [← Nat.add_assoc] at q; exact q
    have s2 : wr.cell? ⟨b2, o2 + k * 12 + 2, none⟩ = some (.int .i64 (R (k * 12 + 2))) := by have q := hc2 (k * 12 + 2) (by omega); rw [← Nat.add_assoc] at q; exact q
    have r3 : wr.cell? ⟨b1, o1 + k * 12 + 3, none⟩ = some (.int .i64 (R (k * 12 + 3))) := by have q := hc1 (k * 12 + 3) (by omega); rw [← Nat.add_assoc] at q; exact q
    have s3 : wr.cell? ⟨b2, o2 + k * 12 + 3, none⟩ = some (.int .i64 (R (k * 12 + 3))) := by have q := hc2 (k * 12 + 3) (by omega); rw [← Nat.add_assoc] at q; exact q
    have r4 : wr.cell? ⟨b1, o1 + k * 12 + 4, none⟩ = some (.int .i64 (R (k * 12 + 4))) := by have q := hc1 (k * 12 + 4) (by omega); rw [← Nat.add_assoc] at q; exact q
    have s4 : wr.cell? ⟨b2, o2 + k * 12 + 4, none⟩ = some (.int .i64 (R (k * 12 + 4))) := by have q := hc2 (k * 12 + 4) (by omega); rw [← Nat.add_assoc] at q; exact q
    have r5 : wr.cell? ⟨b1, o1 + k * 12 + 5, none⟩ = some (.int .i64 (R (k * 12 + 5))) := by have q := hc1 (k * 12 + 5) (by omega); rw [← Nat.add_assoc] at q; exact q
    have s5 : wr.cell? ⟨b2, o2 + k * 12 + 5, none⟩ = some (.int .i64 (R (k * 12 + 5))) := by have q := hc2 (k * 12 + 5) (by omega); rw [← Nat.add_assoc] at q; exact q
    have r6 : wr.cell? ⟨b1, o1 + k * 12 + 6, none⟩ = some (.int .i64 (R (k * 12 + 6))) := by have q := hc1 (k * 12 + 6) (by omega); rw [← Nat.add_assoc] at q; exact q
    have s6 : wr.cell? ⟨b2, o2 + k * 12 + 6, none⟩ = some (.int .i64 (R (k * 12 + 6))) := by have q := hc2 (k * 12 + 6) (by omega); rw [← Nat.add_assoc] at q; exact q
    have r7 : wr.cell? ⟨b1, o1 + k * 12 + 7, none⟩ = some (.int .i64 (R (k * 12 + 7))) := by have q := hc1 (k * 12 + 7) (by omega); rw [← Nat.add_assoc] at q; exact q
    have s7 : wr.cell? ⟨b2, o2 + k * 12 + 7, none⟩ = some (.int .i64 (R (k * 12 + 7))) := by have q := hc2 (k * 12 + 7) (by omega); rw [← Nat.add_assoc] at q; exact q
    have r8 : wr.cell? ⟨b1, o1 + k * 12 + 8, none⟩ = some (.int .i64 (R (k * 12 + 8))) := by have q := hc1 (k * 12 + 8) (by omega); rw [← Nat.add_assoc] at q; exact q
    have s8 : wr.cell? ⟨b2, o2 + k * 12 + 8, none⟩ = some (.int .i64 (R (k * 12 + 8))) := by have q := hc2 (k * 12 + 8) (by omega); rw [← Nat.add_assoc] at q; exact q
    have r9 : wr.cell? ⟨b1, o1 + k * 12 + 9, none⟩ = some (.int .i64 (R (k * 12 + 9))) := by have q := hc1 (k * 12 + 9) (by omega); rw [← Nat.add_assoc] at q; exact q
    have s9 : wr.cell? ⟨b2, o2 + k * 12 + 9, none⟩ = some (.int .i64 (R (k * 12 + 9))) := by have q := hc2 (k * 12 + 9) (by omega); rw [← Nat.add_assoc] at q; exact q
    have r10 : wr.cell? ⟨b1, o1 + k * 12 + 10, none⟩ = some (.int .i64 (R (k * 12 + 10))) := by have q := hc1 (k * 12 + 10) (by omega); rw [← Nat.add_assoc] at q; exact q
    have s10 : wr.cell? ⟨b2, o2 + k * 12 + 10, none⟩ = some (.int .i64 (R (k * 12 + 10))) := by have q := hc2 (k * 12 + 10) (by omega); rw [← Nat.add_assoc] at q; exact q
    have r11 : wr.cell? ⟨b1, o1 + k * 12 + 11, none⟩ = some (.int .i64 (R (k * 12 + 11))) := by have q := hc1 (k * 12 + 11) (by omega); rw [← Nat.add_assoc] at q; exact q
    have s11 : wr.cell? ⟨b2, o2 + k * 12 + 11, none⟩ = some (.int .i64 (R (k * 12 + 11))) := by have q := hc2 (k * 12 + 11) (by omega); rw [← Nat.add_assoc] at q; exact q
    clear hc1 hc2
    subst e1 e2
    have hev := eq_body0 (R (k * 12)) (R (k * 12 + 1)) (R (k * 12 + 2)) (R (k * 12 + 3)) (R (k * 12 + 4)) (R (k * 12 + 5)) (R (k * 12 + 6)) (R (k * 12 + 7)) (R (k * 12 + 8)) (R (k * 12 + 9)) (R (k * 12 + 10)) (R (k * 12 + 11))
    go_upto_region 6 with fail
    refine wp_region_held_drew (S := fun w' => w'.cell? ⟨b1, o1 + k * 12, none⟩ = some (.int .i64 (R (k * 12))) ∧ w'.cell? ⟨b1, o1 + k * 12 + 1, none⟩ = some (.int .i64 (R (k * 12 + 1))) ∧ w'.cell? ⟨b1, o1 + k * 12 + 2, none⟩ = some (.int .i64 (R (k * 12 + 2))) ∧ w'.cell? ⟨b1, o1 + k * 12 + 3, none⟩ = some (.int .i64 (R (k * 12 + 3))) ∧ w'.cell? ⟨b1, o1 + k * 12 + 4, none⟩ = some (.int .i64 (R (k * 12 + 4))) ∧ w'.cell? ⟨b1, o1 + k * 12 + 5, none⟩ = some (.int .i64 (R (k * 12 + 5))) ∧ w'.cell? ⟨b1, o1 + k * 12 + 6, none⟩ = some (.int .i64 (R (k * 12 + 6))) ∧ w'.cell? ⟨b1, o1 + k * 12 + 7, none⟩ = some (.int .i64 (R (k * 12 + 7))) ∧ w'.cell? ⟨b1, o1 + k * 12 + 8, none⟩ = some (.int .i64 (R (k * 12 + 8))) ∧ w'.cell? ⟨b1, o1 + k * 12 + 9, none⟩ = some (.int .i64 (R (k * 12 + 9))) ∧ w'.cell? ⟨b1, o1 + k * 12 + 10, none⟩ = some (.int .i64 (R (k * 12 + 10))) ∧ w'.cell? ⟨b1, o1 + k * 12 + 11, none⟩ = some (.int .i64 (R (k * 12 + 11))) ∧ w'.cell? ⟨b2, o2 + k * 12, none⟩ = some (.int .i64 (R (k * 12))) ∧ w'.cell? ⟨b2, o2 + k * 12 + 1, none⟩ = some (.int .i64 (R (k * 12 + 1))) ∧ w'.cell? ⟨b2, o2 + k * 12 + 2, none⟩ = some (.int .i64 (R (k * 12 + 2))) ∧ w'.cell? ⟨b2, o2 + k * 12 + 3, none⟩ = some (.int .i64 (R (k * 12 + 3))) ∧ w'.cell? ⟨b2, o2 + k * 12 + 4, none⟩ = some (.int .i64 (R (k * 12 + 4))) ∧ w'.cell? ⟨b2, o2 + k * 12 + 5, none⟩ = some (.int .i64 (R (k * 12 + 5))) ∧ w'.cell? ⟨b2, o2 + k * 12 + 6, none⟩ = some (.int .i64 (R (k * 12 + 6))) ∧ w'.cell? ⟨b2, o2 + k * 12 + 7, none⟩ = some (.int .i64 (R (k * 12 + 7))) ∧ w'.cell? ⟨b2, o2 + k * 12 + 8, none⟩ = some (.int .i64 (R (k * 12 + 8))) ∧ w'.cell? ⟨b2, o2 + k * 12 + 9, none⟩ = some (.int .i64 (R (k * 12 + 9))) ∧ w'.cell? ⟨b2, o2 + k * 12 + 10, none⟩ = some (.int .i64 (R (k * 12 + 10))) ∧ w'.cell? ⟨b2, o2 + k * 12 + 11, none⟩ = some (.int .i64 (R (k * 12 + 11)))) (by kernel_rfl) ?_ (fun hHeld => ?_)
    · (try dsimp only)
      (first | (go_simp; done) | (go_keep; done))
    refine tq 0 hHeld ?_
    refine tq 1 hHeld ?_
    refine tq 2 hHeld ?_
    refine tq 3 hHeld ?_
    refine tq 4 hHeld ?_
    refine tq 5 hHeld ?_
    refine tq 6 hHeld ?_
    refine tq 7 hHeld ?_
    refine tq 8 hHeld ?_
    refine wpAnyH_done (by kernel_rfl) ?_ _
    go_wp2_with fail
    go_roundw
    case rel => exact ⟨k + 1, by omega, by go_num, hw.drew⟩
    case measure => simp [intOf]; omega
  · obtain rfl : k = N := by omega
    go_wp2_with fail
    go_ret
    exact ⟨rfl, hw⟩
end Go.Proofs.YtfiaokkolcodgaaGreat
