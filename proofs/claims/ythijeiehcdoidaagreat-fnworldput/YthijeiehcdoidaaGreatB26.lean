/- Texts of a proof. -/
import Derived.Test.YthijeiehcdoidaaGreatB19
import Derived.Deep.RegionHeld3
import Derived.Deep.DeepCutAuto
import Derived.Test.YthijeiehcdoidaaGreatB20
import Derived.Test.YthijeiehcdoidaaGreatB3
import Derived.Test.YthijeiehcdoidaaGreatB6
set_option maxHeartbeats 16000000
set_option maxRecDepth 20000
namespace Go.Proofs.YthijeiehcdoidaaGreat
open Go.RowKit
set_option linter.unusedVariables false
set_option linter.unusedSimpArgs false
def ApartDoes : Prop := ∀ (base g n c : Nat) (U : Nat → Int) (A B : Nat) (X Y D : Int) (w : World), OwnL w base 41 12 (.slice (some ⟨g, 0, none⟩) n c) n U → n ≤ 1048576 → A < n → B < n → Bods n U → (-256 ≤ X ∧ X ≤ 256) → (-256 ≤ Y ∧ Y ≤ 256) → (0 ≤ D ∧ D ≤ 102400) → Calls Tryz.prog 162 #[.slice (some ⟨g, 0, none⟩) n c, .agg #[.int .i64 (A : Int), .int .i64 (B : Int), .int .i64 X, .int .i64 Y, .int .i64 D]] w fun e w' => e = .returned (.tuple #[]) ∧ OwnL w' base 41 12 (.slice (some ⟨g, 0, none⟩) n c) n (apartU U A B X Y D) ∧ Fr (fun b => b = g) w w'
theorem l8Aparts_of (HA : ApartDoes) (a : Option Addr) (n c : Nat) (U : Nat → Int) (ac : Option Addr) (m cc : Nat) (C : Nat → Int) (w : World) (h : Flat w a (n * 12) U) (hn : n ≤ 1048576) (hm : m ≤ 1048576) (h2 : Flat w ac (m * 5) C) (hbb : Bods n U) (hC : CtOk n m C) :
 Calls Tryz.prog 146 #[.slice a n c, .slice ac m cc] w fun e w' => ∃ a1 c1, e = .returned (.slice a1 n c1) ∧ OutL w w' 41 12 a1 n c1 (apartN C U m) := by
 have hset := cset_map
 go_enter Tryz.func146, Tryz.ntmps146
 go_upto_region 1 with fail
 go_cut [5] (fun s0 wc => ∃ a1 c1, s0 = .slice a1 n c1 ∧ OutL w wc 41 12 a1 n c1 U)
 case first =>
  go_wp2_with (go_at_call 72; refine (l8Copy_any a n c U _ h hn).mono ?_; rintro e w3 ⟨a1, c1, rfl, hO⟩)
  go_meet
  exact ⟨_, _, rfl, hO⟩
 case rest =>
 obtain ⟨a1, c1, rfl, hO⟩ := hcut
 go_upto_region 3 with fail
 go_loopw [6] (fun s wr => ∃ k : Nat, k ≤ m ∧ s = .int .i64 (k : Int) ∧ OutL w wr 41 12 a1 n c1 (apartN C U k)) (fun s _ => m - (intOf s).toNat)
 case atStart => exact ⟨0, Nat.zero_le _, rfl, hO⟩
 case round =>
  clear hO
  obtain ⟨k, hk, rfl, hO⟩ := hrel
  by_cases hlt : k < m
  · have hkm : (k : Int) < (m : Int) := by omega
    have ca := hC.a k hlt
    have cb := hC.b k hlt
    have cx := hC.x k hlt
    have cy := hC.y k hlt
    have cd := hC.d k hlt
    have hB := (hbb.aparts hC k hk).1
    obtain ⟨b2, o2, e2, hbl2, hc2⟩ := (h2.below hO.bel) (by omega)
    have r0 := hc2 (k * 5) (by omega)
    have r1 := hc2 (k * 5 + 1) (by omega)
    have r2 := hc2 (k * 5 + 2) (by omega)
    have r3 := hc2 (k * 5 + 3) (by omega)
    have r4 := hc2 (k * 5 + 4) (by omega)
    simp only [← Nat.add_assoc] at r0 r1 r2 r3 r4
    clear hc2
    subst e2
    have HN : Shut (apartN C U (k + 1) = apartU (apartN C U k) (C (k * 5)).toNat (C (k * 5 + 1)).toNat (C (k * 5 + 2)) (C (k * 5 + 3)) (C (k * 5 + 4))) := by show _ = _; rw [apartN]
    obtain ⟨A, hA⟩ : ∃ A : Nat, C (k * 5) = (A : Int) := ⟨(C (k * 5)).toNat, by omega⟩
    obtain ⟨B, hBB⟩ : ∃ B : Nat, C (k * 5 + 1) = (B : Int) := ⟨(C (k * 5 + 1)).toNat, by omega⟩
    rw [hA, hBB, Int.toNat_natCast, Int.toNat_natCast] at HN
    rw [hA] at ca r0
    rw [hBB] at cb r1
    clear hA hBB
    obtain ⟨g, rfl, hg1, hg2⟩ := hO.own.loc (by omega)
    go_wp2_with (go_at_call 162; refine (HA w.heap.size g n c1 (apartN C U k) A B _ _ _ _ hO.own hn (by omega) (by omega) hB cx cy cd).mono ?_; rintro e w5 ⟨rfl, ho5, hf5⟩)
    have hB5 : Below w.heap.size w w5 := hO.bel.trans (hf5.below (by have := hO.bel.size; omega) (fun b e => by omega))
    go_roundw
    case rel => exact ⟨k + 1, by omega, by go_num, hB5, by rw [HN.out]; exact ho5⟩
    case measure => simp [intOf]; omega
  · obtain rfl : k = m := by omega
    go_wp2_with fail
    go_ret
    exact ⟨_, _, rfl, hO⟩
theorem balloc (w : World) (o : Obj) : Below w.heap.size w (w.alloc o) := (Below.refl _ _).alloc (Nat.le_refl _) o
theorem Al.bl {w0 w w' : World} {ab n B : Nat} {V : Nat → Int} (h : Al w0 w ab n V) (k : Below B w w') (hB : ab < B) : Al w0 w' ab n V := by
 obtain ⟨h1, h2, h3, h4⟩ := h
 exact ⟨h1, Nat.lt_of_lt_of_le h2 k.size, fun i hi => (k.cell (p := ⟨ab, i, none⟩) hB).trans (h3 i hi), fun i hi => (k.frozen (p := ⟨ab, i, none⟩) hB).trans (h4 i hi)⟩
theorem Al.ne {rb : Nat} {w0 w w' : World} {ab n : Nat} {V : Nat → Int} (h : Al w0 w ab n V) (hne : ab ≠ rb) (k : But rb w w') : Al w0 w' ab n V := by
 obtain ⟨h1, h2, h3, h4⟩ := h
 exact ⟨h1, Nat.lt_of_lt_of_le h2 k.size, fun i hi => (k.cell (p := ⟨ab, i, none⟩) h2 hne).trans (h3 i hi), fun i hi => (k.frozen (p := ⟨ab, i, none⟩) h2 hne).trans (h4 i hi)⟩
theorem Al.off {w0 w : World} {ab n b k : Nat} {V : Nat → Int} (h : Al w0 w ab n V) (hb : ab ≠ b) (v : Value) : Al w0 (w.setCell ⟨b, k, none⟩ v) ab n V := by
 obtain ⟨h1, h2, h3, h4⟩ := h
 refine ⟨h1, by simpa [World.setCell] using h2, fun i hi => ?_, fun i hi => ?_⟩
 · rw [cset_far (by simp; omega)]; exact h3 i hi
 · rw [World.frozen?_setCell]; exact h4 i hi
abbrev Bls := List (Nat × Nat × (Nat → Int))
structure AL (w w' : World) (L : Bls) : Prop where
 bel : Below w.heap.size w w'
 al : ∀ x ∈ L, Al w w' x.1 x.2.1 x.2.2
theorem AL.nil (w : World) : AL w w [] := ⟨Below.refl _ _, fun x hx => by cases hx⟩
theorem AL.new {w w' : World} {L : Bls} (h : AL w w' L) (b n : Nat) (V : Nat → Int) {cs : Array Value} {t : TypeId} (hb : b = w'.heap.size) (hc : ∀ i, i < n → cs[i]? = some (.int .i64 (V i))) :
 AL w (w'.alloc (.cells cs t)) ((b, n, V) :: L) := by
 subst hb
 refine ⟨h.bel.alloc h.bel.size _, fun x hx => ?_⟩
 rcases List.mem_cons.mp hx with rfl | hx
 · exact Al.new h.bel.size hc
 · exact (h.al x hx).bl (balloc _ _) (h.al x hx).2.1
theorem AL.call {w w' w1 : World} {L : Bls} (h : AL w w' L) (k : Below w'.heap.size w' w1) : AL w w1 L :=
 ⟨h.bel.trans (k.mono h.bel.size), fun x hx => (h.al x hx).bl k (h.al x hx).2.1⟩
theorem AL.get {w w' : World} {L : Bls} (h : AL w w' L) {x : Nat × Nat × (Nat → Int)} (hx : x ∈ L) : Al w w' x.1 x.2.1 x.2.2 := h.al x hx
theorem AL.sub {w w' : World} {L M : Bls} (h : AL w w' L) (k : ∀ x ∈ M, x ∈ L) : AL w w' M := ⟨h.bel, fun x hx => h.al x (k x hx)⟩
theorem AL.lt {w w' : World} {L : Bls} (h : AL w w' L) {x : Nat × Nat × (Nat → Int)} (hx : x ∈ L) : x.1 < w'.heap.size := (h.al x hx).2.1
theorem AL.drew {w w' : World} {L : Bls} (h : AL w w' L) : AL w w'.drew L := ⟨h.bel.drew, h.al⟩
theorem AL.set {w w' : World} {b n : Nat} {V : Nat → Int} {L : Bls} (h : AL w w' ((b, n, V) :: L)) (hne : ∀ x ∈ L, x.1 ≠ b) (k : Nat) (hk : k < n) (v : Int) :
 AL w (w'.setCell ⟨b, k, none⟩ (.int .i64 v)) ((b, n, fun j => if j = k then v else V j) :: L) := by
 have hb := h.al _ (List.mem_cons_self ..)
 have hlo := hb.1
 dsimp only at hlo
 refine ⟨h.bel.setCell (by simpa using hlo) _, fun x hx => ?_⟩
 rcases List.mem_cons.mp hx with rfl | hx
 · exact hb.set k hk v
 · exact (h.al x (List.mem_cons_of_mem _ hx)).off (hne x hx) _
structure DL (w w' : World) (rb p : Nat) (L : Bls) : Prop where
 rs : RS w' rb p
 bel : Below w.heap.size w w'
 lo : w.heap.size ≤ rb
 al : ∀ x ∈ L, Al w w' x.1 x.2.1 x.2.2 ∧ x.1 ≠ rb
theorem AL.opened {w w0 w1 : World} {L : Bls} (h : AL w w0 L) (k : Below w0.heap.size w0 w1) (r : RS w1 w0.heap.size 0) : DL w w1 w0.heap.size 0 L :=
 ⟨r, h.bel.trans (k.mono h.bel.size), h.bel.size, fun x hx => ⟨(h.al x hx).bl k (h.al x hx).2.1, by have := (h.al x hx).2.1; omega⟩⟩
theorem DL.call {w w' w1 : World} {rb p p1 : Nat} {L : Bls} (h : DL w w' rb p L) (k : RB w' w1 rb p1) : DL w w1 rb p1 L :=
 ⟨RS.of k, h.bel.trans (k.but.below h.lo h.bel.size), h.lo, fun x hx => ⟨(h.al x hx).1.ne (h.al x hx).2 k.but, (h.al x hx).2⟩⟩
theorem DL.mono {w w' : World} {rb p p1 : Nat} {L : Bls} (h : DL w w' rb p L) (k : p ≤ p1) : DL w w' rb p1 L := ⟨h.rs.mono k, h.bel, h.lo, h.al⟩
theorem DL.drew {w w' : World} {rb p : Nat} {L : Bls} (h : DL w w' rb p L) : DL w w'.drew rb p L := ⟨h.rs.drew, h.bel.drew, h.lo, h.al⟩
theorem DL.new {w w' : World} {rb p : Nat} {L : Bls} (h : DL w w' rb p L) (n : Nat) (V : Nat → Int) {cs : Array Value} {t : TypeId} (hc : ∀ i, i < n → cs[i]? = some (.int .i64 (V i))) :
 DL w (w'.alloc (.cells cs t)) rb p ((w'.heap.size, n, V) :: L) := by
 refine ⟨h.rs.alloc _, h.bel.alloc h.bel.size _, h.lo, fun x hx => ?_⟩
 rcases List.mem_cons.mp hx with rfl | hx
 · exact ⟨Al.new h.bel.size hc, by have := h.rs.lt; dsimp only; omega⟩
 · exact ⟨(h.al x hx).1.bl (balloc _ _) (h.al x hx).1.2.1, (h.al x hx).2⟩
theorem DL.alloc {w w' : World} {rb p : Nat} {L : Bls} (h : DL w w' rb p L) (o : Obj) : DL w (w'.alloc o) rb p L :=
 ⟨h.rs.alloc _, h.bel.alloc h.bel.size _, h.lo, fun x hx => ⟨(h.al x hx).1.bl (balloc _ _) (h.al x hx).1.2.1, (h.al x hx).2⟩⟩
theorem DL.sub {w w' : World} {rb p : Nat} {L M : Bls} (h : DL w w' rb p L) (k : ∀ x ∈ M, x ∈ L) : DL w w' rb p M := ⟨h.rs, h.bel, h.lo, fun x hx => h.al x (k x hx)⟩
theorem DL.get {w w' : World} {rb p : Nat} {L : Bls} (h : DL w w' rb p L) {x : Nat × Nat × (Nat → Int)} (hx : x ∈ L) : Al w w' x.1 x.2.1 x.2.2 := (h.al x hx).1
theorem DL.lt {w w' : World} {rb p : Nat} {L : Bls} (h : DL w w' rb p L) {x : Nat × Nat × (Nat → Int)} (hx : x ∈ L) : x.1 < w'.heap.size := (h.al x hx).1.2.1
theorem DL.headc {w w' : World} {rb p b n : Nat} {V U : Nat → Int} {L : Bls} (h : DL w w' rb p ((b, n, V) :: L)) (k : ∀ i, i < n → V i = U i) : DL w w' rb p ((b, n, U) :: L) := by
 refine ⟨h.rs, h.bel, h.lo, fun x hx => ?_⟩
 rcases List.mem_cons.mp hx with rfl | hx
 · have q := h.al _ (List.mem_cons_self ..)
   exact ⟨q.1.congr k, q.2⟩
 · exact h.al x (List.mem_cons_of_mem _ hx)
theorem DL.set {w w' : World} {rb p b n : Nat} {V : Nat → Int} {L : Bls} (h : DL w w' rb p ((b, n, V) :: L)) (hr : rb < b) (hne : ∀ x ∈ L, x.1 ≠ b) (k : Nat) (hk : k < n) (v : Int) :
 DL w (w'.setCell ⟨b, k, none⟩ (.int .i64 v)) rb p ((b, n, fun j => if j = k then v else V j) :: L) := by
 have hb := (h.al _ (List.mem_cons_self ..)).1
 have hlo := hb.1
 dsimp only at hlo
 refine ⟨h.rs.setNew (by simpa using hr) _, h.bel.setCell (by simpa using hlo) _, h.lo, fun x hx => ?_⟩
 rcases List.mem_cons.mp hx with rfl | hx
 · exact ⟨hb.set k hk v, by dsimp only; omega⟩
 · exact ⟨(h.al x (List.mem_cons_of_mem _ hx)).1.off (hne x hx) _, (h.al x (List.mem_cons_of_mem _ hx)).2⟩
structure BL (w w' : World) (rb p : Nat) (L : Bls) : Prop where
 rs : RS w' rb p
 but : But rb w w'
 lo : rb < w.heap.size
 al : ∀ x ∈ L, Al w w' x.1 x.2.1 x.2.2
theorem BL.start {w : World} {rb p : Nat} (h : RS w rb p) : BL w w rb p [] := ⟨h, But.refl _ _, h.lt, fun x hx => by cases hx⟩
theorem BL.call {w w' w1 : World} {rb p p1 : Nat} {L : Bls} (h : BL w w' rb p L) (k : RB w' w1 rb p1) : BL w w1 rb p1 L :=
 ⟨RS.of k, h.but.trans k.but, h.lo, fun x hx => (h.al x hx).up h.lo k.but⟩
theorem BL.calb {w w' w1 : World} {rb p : Nat} {L : Bls} (h : BL w w' rb p L) (k : Below w'.heap.size w' w1) : BL w w1 rb p L := by
 obtain ⟨q, a, b⟩ := h.rs
 exact h.call (RB.mk (But.of_below k) ⟨q, a, b.below k⟩)
theorem BL.mono {w w' : World} {rb p p1 : Nat} {L : Bls} (h : BL w w' rb p L) (k : p ≤ p1) : BL w w' rb p1 L := ⟨h.rs.mono k, h.but, h.lo, h.al⟩
theorem BL.drew {w w' : World} {rb p : Nat} {L : Bls} (h : BL w w' rb p L) : BL w w'.drew rb p L := ⟨h.rs.drew, h.but.drew, h.lo, h.al⟩
theorem BL.new {w w' : World} {rb p : Nat} {L : Bls} (h : BL w w' rb p L) (b n : Nat) (V : Nat → Int) {cs : Array Value} {t : TypeId} (hb : b = w'.heap.size) (hc : ∀ i, i < n → cs[i]? = some (.int .i64 (V i))) :
 BL w (w'.alloc (.cells cs t)) rb p ((b, n, V) :: L) := by
 subst hb
 refine ⟨h.rs.alloc _, h.but.alloc _, h.lo, fun x hx => ?_⟩
 rcases List.mem_cons.mp hx with rfl | hx
 · exact Al.new h.but.size hc
 · exact (h.al x hx).bl (balloc _ _) (h.al x hx).2.1
theorem BL.alloc {w w' : World} {rb p : Nat} {L : Bls} (h : BL w w' rb p L) (o : Obj) : BL w (w'.alloc o) rb p L :=
 ⟨h.rs.alloc _, h.but.alloc _, h.lo, fun x hx => (h.al x hx).bl (balloc _ _) (h.al x hx).2.1⟩
theorem BL.sub {w w' : World} {rb p : Nat} {L M : Bls} (h : BL w w' rb p L) (k : ∀ x ∈ M, x ∈ L) : BL w w' rb p M := ⟨h.rs, h.but, h.lo, fun x hx => h.al x (k x hx)⟩
theorem BL.get {w w' : World} {rb p : Nat} {L : Bls} (h : BL w w' rb p L) {x : Nat × Nat × (Nat → Int)} (hx : x ∈ L) : Al w w' x.1 x.2.1 x.2.2 := h.al x hx
theorem BL.lt {w w' : World} {rb p : Nat} {L : Bls} (h : BL w w' rb p L) {x : Nat × Nat × (Nat → Int)} (hx : x ∈ L) : x.1 < w'.heap.size := (h.al x hx).2.1
theorem BL.set {w w' : World} {rb p b n : Nat} {V : Nat → Int} {L : Bls} (h : BL w w' rb p ((b, n, V) :: L)) (hne : ∀ x ∈ L, x.1 ≠ b) (k : Nat) (hk : k < n) (v : Int) :
 BL w (w'.setCell ⟨b, k, none⟩ (.int .i64 v)) rb p ((b, n, fun j => if j = k then v else V j) :: L) := by
 have hb := h.al _ (List.mem_cons_self ..)
 have hlo := hb.1
 dsimp only at hlo
 have h0 := h.lo
 refine ⟨h.rs.setNew (by dsimp only; omega) _, h.but.setNew (by simpa using hlo) _, h.lo, fun x hx => ?_⟩
 rcases List.mem_cons.mp hx with rfl | hx
 · exact hb.set k hk v
 · exact (h.al x (List.mem_cons_of_mem _ hx)).off (hne x hx) _
theorem BL.headc {w w' : World} {rb p b n : Nat} {V U : Nat → Int} {L : Bls} (h : BL w w' rb p ((b, n, V) :: L)) (k : ∀ i, i < n → V i = U i) : BL w w' rb p ((b, n, U) :: L) := by
 refine ⟨h.rs, h.but, h.lo, fun x hx => ?_⟩
 rcases List.mem_cons.mp hx with rfl | hx
 · exact (h.al _ (List.mem_cons_self ..)).congr k
 · exact h.al x (List.mem_cons_of_mem _ hx)
theorem BL.done {w w' : World} {rb p : Nat} {L : Bls} (h : BL w w' rb p L) : RB w w' rb p := RB.mk h.but h.rs
theorem sh_r {g : Int} (h : 1 ≤ g ∧ g ≤ 25600) : shB 1 g 0 = true := by unfold shB rdB; simp [h]
theorem sh_b {g k : Int} (h : 1 ≤ g ∧ g ≤ 25600) (h2 : 1 ≤ k ∧ k ≤ 25600) : shB 2 g k = true := by unfold shB bxB; simp [h, h2]
theorem l11Shape_k (rb p : Nat) (w : World) (hs0 : RS w rb p) (hp : p ≤ 997900) :
 Calls Tryz.prog 94 #[.pointer (some ⟨rb, 0, none⟩)] w fun e w' => ∃ k g h : Int, e = .returned (s3 k g h) ∧ shB k g h = true ∧ RB w w' rb (p + 60) := by
 have hlt := hs0.lt
 have hne : (w.heap.size = rb) = False := eq_false (by omega)
 have hset := cset_map
 go_enter Tryz.func94, Tryz.ntmps94
 go_wp2_with (first
  | (have _ := hr3; go_at_call 19; refine (pick_s rb (p + 40) _ _ (by repeat (first | (with_reducible apply RS.setNew; rotate_left; (first | omega | (simp only [zz]; omega))) | with_reducible apply RS.alloc | (with_reducible apply RS.up hr3; omega) | (with_reducible apply RS.mono hs0; omega) | with_reducible apply RS.drew | with_reducible apply RS.drewN)) (by omega) (by omega) (by omega)).mono ?_; rintro e w4 ⟨v4, rfl, va4, vb4, hr4⟩; obtain ⟨hc4, hf4⟩ := RB.cells hr4; have hz4 := RB.size hr4; (try simp only [zz] at hc4 hf4 hz4); have hq4x0 : w.heap.size < w4.heap.size := (by omega); have ha4x0 : (w4.heap.size = w.heap.size) = False := eq_false (by omega); have hb4x0 : (w.heap.size = w4.heap.size) = False := eq_false (by omega); have he4x0 : (w.heap.size = rb) = False := eq_false (by omega); have hk4x0 := fun o => hc4 (w.heap.size) o (by omega) (by omega); have hj4x0 := fun o => hf4 (w.heap.size) o (by omega) (by omega))
  | (have _ := hr2; go_at_call 19; refine (pick_s rb (p + 30) _ _ (by repeat (first | (with_reducible apply RS.setNew; rotate_left; (first | omega | (simp only [zz]; omega))) | with_reducible apply RS.alloc | (with_reducible apply RS.up hr2; omega) | (with_reducible apply RS.mono hs0; omega) | with_reducible apply RS.drew | with_reducible apply RS.drewN)) (by omega) (by omega) (by omega)).mono ?_; rintro e w3 ⟨v3, rfl, va3, vb3, hr3⟩; obtain ⟨hc3, hf3⟩ := RB.cells hr3; have hz3 := RB.size hr3; (try simp only [zz] at hc3 hf3 hz3); have hq3x0 : w.heap.size < w3.heap.size := (by omega); have ha3x0 : (w3.heap.size = w.heap.size) = False := eq_false (by omega); have hb3x0 : (w.heap.size = w3.heap.size) = False := eq_false (by omega); have he3x0 : (w.heap.size = rb) = False := eq_false (by omega); have hk3x0 := fun o => hc3 (w.heap.size) o (by omega) (by omega); have hj3x0 := fun o => hf3 (w.heap.size) o (by omega) (by omega))
  | (go_at_call 19; refine (pick_s rb (p + 10) _ _ (by repeat (first | (with_reducible apply RS.setNew; rotate_left; (first | omega | (simp only [zz]; omega))) | with_reducible apply RS.alloc | (with_reducible apply RS.mono hs0; omega) | with_reducible apply RS.drew | with_reducible apply RS.drewN)) (by omega) (by omega) (by omega)).mono ?_; rintro e w1 ⟨v1, rfl, va1, vb1, hr1⟩; obtain ⟨hc1, hf1⟩ := RB.cells hr1; have hz1 := RB.size hr1; (try simp only [zz] at hc1 hf1 hz1); have hq1x0 : w.heap.size < w1.heap.size := (by omega); have ha1x0 : (w1.heap.size = w.heap.size) = False := eq_false (by omega); have hb1x0 : (w.heap.size = w1.heap.size) = False := eq_false (by omega); have he1x0 : (w.heap.size = rb) = False := eq_false (by omega); have hk1x0 := fun o => hc1 (w.heap.size) o (by omega) (by omega); have hj1x0 := fun o => hf1 (w.heap.size) o (by omega) (by omega))
  | (have _ := hr4; go_at_call 48; refine (one_s (1) 1000 rb (p + 50) _ _ _ _ _ (by repeat (first | (with_reducible apply RS.setNew; rotate_left; (first | omega | (simp only [zz]; omega))) | with_reducible apply RS.alloc | (with_reducible apply RS.up hr4; omega) | (with_reducible apply RS.mono hs0; omega) | with_reducible apply RS.drew | with_reducible apply RS.drewN)) (by omega) (by repeat (first | exact AllBd.nil | refine AllBd.cons (by omega) (by omega) ?_)) (by rfl) (by omega) (by omega)).mono ?_; rintro e w5 ⟨v5, rfl, va5, vb5, hr5⟩; obtain ⟨hc5, hf5⟩ := RB.cells hr5; have hz5 := RB.size hr5; (try simp only [zz] at hc5 hf5 hz5); have hq5x0 : w.heap.size < w5.heap.size := (by omega); have ha5x0 : (w5.heap.size = w.heap.size) = False := eq_false (by omega); have hb5x0 : (w.heap.size = w5.heap.size) = False := eq_false (by omega); have he5x0 : (w.heap.size = rb) = False := eq_false (by omega); have hk5x0 := fun o => hc5 (w.heap.size) o (by omega) (by omega); have hj5x0 := fun o => hf5 (w.heap.size) o (by omega) (by omega))
  | (have _ := hr1; go_at_call 48; refine (one_s (1) 1000 rb (p + 20) _ _ _ _ _ (by repeat (first | (with_reducible apply RS.setNew; rotate_left; (first | omega | (simp only [zz]; omega))) | with_reducible apply RS.alloc | (with_reducible apply RS.up hr1; omega) | (with_reducible apply RS.mono hs0; omega) | with_reducible apply RS.drew | with_reducible apply RS.drewN)) (by omega) (by repeat (first | exact AllBd.nil | refine AllBd.cons (by omega) (by omega) ?_)) (by rfl) (by omega) (by omega)).mono ?_; rintro e w2 ⟨v2, rfl, va2, vb2, hr2⟩; obtain ⟨hc2, hf2⟩ := RB.cells hr2; have hz2 := RB.size hr2; (try simp only [zz] at hc2 hf2 hz2); have hq2x0 : w.heap.size < w2.heap.size := (by omega); have ha2x0 : (w2.heap.size = w.heap.size) = False := eq_false (by omega); have hb2x0 : (w.heap.size = w2.heap.size) = False := eq_false (by omega); have he2x0 : (w.heap.size = rb) = False := eq_false (by omega); have hk2x0 := fun o => hc2 (w.heap.size) o (by omega) (by omega); have hj2x0 := fun o => hf2 (w.heap.size) o (by omega) (by omega)))
 · exact bodyPost_ret (v := s3 1 v2 0) (by simp [results, Tryz.results94, go_sem, *]) rfl ⟨_, _, _, rfl, (sh_r ⟨by omega, by omega⟩), RB.mk (by repeat (first | (with_reducible apply But.setNew; rotate_left; (first | omega | (simp only [zz]; omega))) | with_reducible apply But.alloc | with_reducible apply But.trans (k := RB.but hr3) | with_reducible apply But.trans (k := RB.but hr2) | with_reducible apply But.trans (k := RB.but hr1) | with_reducible apply But.refl | with_reducible apply But.drewN | with_reducible apply But.drew)) (by repeat (first | (with_reducible apply RS.setNew; rotate_left; (first | omega | (simp only [zz]; omega))) | with_reducible apply RS.alloc | (with_reducible apply RS.up hr3; omega) | (with_reducible apply RS.up hr2; omega) | (with_reducible apply RS.up hr1; omega) | (with_reducible apply RS.mono hs0; omega) | with_reducible apply RS.drew | with_reducible apply RS.drewN))⟩
 · exact bodyPost_ret (v := s3 2 v2 v5) (by simp [results, Tryz.results94, go_sem, *]) rfl ⟨_, _, _, rfl, (sh_b ⟨by omega, by omega⟩ ⟨by omega, by omega⟩), RB.mk (by repeat (first | (with_reducible apply But.setNew; rotate_left; (first | omega | (simp only [zz]; omega))) | with_reducible apply But.alloc | with_reducible apply But.trans (k := RB.but hr5) | with_reducible apply But.trans (k := RB.but hr4) | with_reducible apply But.trans (k := RB.but hr3) | with_reducible apply But.trans (k := RB.but hr2) | with_reducible apply But.trans (k := RB.but hr1) | with_reducible apply But.refl | with_reducible apply But.drewN | with_reducible apply But.drew)) (by repeat (first | (with_reducible apply RS.setNew; rotate_left; (first | omega | (simp only [zz]; omega))) | with_reducible apply RS.alloc | (with_reducible apply RS.up hr5; omega) | (with_reducible apply RS.up hr4; omega) | (with_reducible apply RS.up hr3; omega) | (with_reducible apply RS.up hr2; omega) | (with_reducible apply RS.up hr1; omega) | (with_reducible apply RS.mono hs0; omega) | with_reducible apply RS.drew | with_reducible apply RS.drewN))⟩
theorem l11Drive_k (rb p : Nat) (m : Int) (w : World) (hs0 : RS w rb p) (hp : p ≤ 900000) (hm : 0 ≤ m ∧ m ≤ 100) :
 Calls Tryz.prog 95 #[.pointer (some ⟨rb, 0, none⟩), .int .i64 m] w fun e w' => ∃ x y : Int, e = .returned (vv x y) ∧ (((-64000 ≤ x ∧ x ≤ 64000) ∧ -64000 ≤ y ∧ y ≤ 64000) ∧ (m = 0 → x = 0 ∧ y = 0)) ∧ RB w w' rb (p + 60) := by
 have hlt := hs0.lt
 have hne : (w.heap.size = rb) = False := eq_false (by omega)
 have hset := cset_map
 go_enter Tryz.func95, Tryz.ntmps95
 go_upto_region 1 with fail
 have r0 : Al w (w.alloc (.cells #[.int .i64 0, .int .i64 0] 28)) w.heap.size 2 (fun _ => 0) := Al.new (Nat.le_refl _) (by intro i hi; rcases (show i = 0 ∨ i = 1 by omega) with rfl | rfl <;> rfl)
 have hs1 : RS (w.alloc (.cells #[.int .i64 0, .int .i64 0] 28)) rb p := hs0.alloc _
 have hb0 : But rb w (w.alloc (.cells #[.int .i64 0, .int .i64 0] 28)) := but_alloc rb _ _
 generalize w.alloc (.cells #[.int .i64 0, .int .i64 0] 28) = w0 at *
 go_cut [5] (fun s5 wc => ∃ v, s5 = .int .i64 v ∧ 0 ≤ v ∧ v ≤ 2000 ∧ (m = 0 → v = 0) ∧ But rb w wc ∧ RS wc rb (p + 10) ∧ Al w wc w.heap.size 2 (fun _ => 0))
 case first =>
  go_wp2_with (go_at_call 48; refine (one_s (0) 20 rb (p) _ _ _ _ _ (by exact hs1) (by omega) (by repeat (first | exact AllBd.nil | refine AllBd.cons (by omega) (by omega) ?_)) (by rfl) (by omega) (by omega)).mono ?_; rintro e w1 ⟨v1, rfl, va1, vb1, hr1⟩; have hm1 := mul_bd (a := v1) (b := m) (A := 20) (B := 100) (by omega) (by omega); have hw1 := i64w (n := v1 * m) (by omega); have hg1 : 0 ≤ v1 * m := Int.mul_nonneg va1 hm.1)
  go_meet
  exact ⟨_, rfl, by omega, by omega, fun e => by rw [e, Int.mul_zero], hb0.trans (RB.but hr1), RS.up hr1 (by omega), r0.up hlt (RB.but hr1)⟩
 case rest =>
 obtain ⟨v, rfl, v0, v1, vz, hbut, hrs, hal⟩ := hcut
 go_upto_region 2 with fail
 have hz := hbut.size
 go_wp2_with (first
  | (have _ := hr2; go_at_call 19; refine (pick_s rb (p + 20) _ _ (by exact RS.up hr2 (by omega)) (by omega) (by omega) (by omega)).mono ?_; rintro e w3 ⟨v3, rfl, va3, vb3, hr3⟩; have hw3 := i64w (n := v3 - 32) (by omega); have hm3 := mul_bd (a := v3 - 32) (b := v) (A := 32) (B := 2000) (by omega) (by omega); have hx3 := i64w (n := (v3 - 32) * v) (by omega); have ha3 := hal.up hlt ((RB.but hr2).trans (RB.but hr3)); have rc0 := (ha3).2.2.1 0 (by omega); have rf0 := (ha3).2.2.2 0 (by omega); have rc1 := (ha3).2.2.1 1 (by omega); have rf1 := (ha3).2.2.2 1 (by omega))
  | (go_at_call 19; refine (pick_s rb (p + 10) _ _ (by exact hrs) (by omega) (by omega) (by omega)).mono ?_; rintro e w2 ⟨v2, rfl, va2, vb2, hr2⟩; have hw2 := i64w (n := v2 - 32) (by omega); have hm2 := mul_bd (a := v2 - 32) (b := v) (A := 32) (B := 2000) (by omega) (by omega); have hx2 := i64w (n := (v2 - 32) * v) (by omega)))
 exact bodyPost_ret (v := vv ((v2 - 32) * v) ((v3 - 32) * v)) (by simp [results, Tryz.results95, go_sem, *]) rfl ⟨_, _, rfl, ⟨⟨⟨by omega, by omega⟩, by omega, by omega⟩, fun e => by rw [vz e, Int.mul_zero, Int.mul_zero]; exact ⟨rfl, rfl⟩⟩, RB.mk (((hbut.trans ((RB.but hr2).trans (RB.but hr3))).setNew (by simp) _).setNew (by simp) _) (((RS.up hr3 (by omega)).setNew (by simp; omega) _).setNew (by simp; omega) _)⟩
end Go.Proofs.YthijeiehcdoidaaGreat
