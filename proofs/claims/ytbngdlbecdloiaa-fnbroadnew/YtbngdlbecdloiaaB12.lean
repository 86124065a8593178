/- The library's stable sort, as far as numbers change places: swapRange. The library's stable sort, as far as numbers change places: rotate, insertion. -/
import Derived.Test.YtbngdlbecdloiaaB8
import Derived.Test.YtbngdlbecdloiaaB4
import Derived.Deep.RegionHeld3
import Derived.Deep.DeepCutAuto
set_option maxHeartbeats 16000000
set_option maxRecDepth 20000
namespace Go.Proofs.Ytbngdlbecdloiaa
open Go.RowKit
set_option linter.unusedVariables false
set_option linter.unusedSimpArgs false
/-- of one block nothing but a row has turned; of all older others nothing -/
structure Trn (lb off n : Nat) (w w' : World) : Prop where
  but : But lb w w'
  out : ∀ k, (k < off ∨ off + n ≤ k) → w'.cell? ⟨lb, k, none⟩ = w.cell? ⟨lb, k, none⟩
  frz : ∀ k, w'.frozen? ⟨lb, k, none⟩ = w.frozen? ⟨lb, k, none⟩
theorem Trn.refl (lb off n : Nat) (w : World) : Trn lb off n w w := ⟨But.refl _ _, fun _ _ => rfl, fun _ => rfl⟩
theorem Trn.trans {lb off n : Nat} {a b c : World} (h : Trn lb off n a b) (k : Trn lb off n b c) : Trn lb off n a c :=
  ⟨h.but.trans k.but, fun i hi => (k.out i hi).trans (h.out i hi), fun i => (k.frz i).trans (h.frz i)⟩
theorem Trn.drew {lb off n : Nat} {a b : World} (h : Trn lb off n a b) : Trn lb off n a b.drew :=
  ⟨⟨h.but.os, h.but.tape, h.but.output, h.but.size, h.but.block⟩, h.out, h.frz⟩
theorem Trn.set {lb off n : Nat} {a b : World} (h : Trn lb off n a b) (i : Nat) (hi : i < n) (v : Value) : Trn lb off n a (b.setCell ⟨lb, off + i, none⟩ v) := by
  refine ⟨h.but.setCell rfl v, fun k hk => ?_, fun k => ?_⟩
  · rw [cset_other (by intro q; injection q with q1 q2; omega)]; exact h.out k hk
  · rw [World.frozen?_setCell]; exact h.frz k
/-- what lays new blocks alone -/
theorem Trn.below {lb off n : Nat} {a b c : World} (h : Trn lb off n a b) (hlb : lb < a.heap.size) (k : Below b.heap.size b c) : Trn lb off n a c :=
  have hl : lb < b.heap.size := Nat.lt_of_lt_of_le hlb h.but.size
  ⟨h.but.trans (But.of_below k), fun i hi => (k.cell (p := ⟨lb, i, none⟩) hl).trans (h.out i hi), fun i => (k.frozen (p := ⟨lb, i, none⟩) hl).trans (h.frz i)⟩
theorem Trn.lt {lb off n : Nat} {a b : World} (h : Trn lb off n a b) {k : Nat} (hk : k < a.heap.size) : k < b.heap.size := Nat.lt_of_lt_of_le hk h.but.size
theorem Rwo.drew {w : World} {lb off n : Nat} {V : Nat → Int} (h : Rwo w lb off n V) : Rwo w.drew lb off n V := ⟨h.cell, h.free⟩
theorem Rwo.below {w w' : World} {lb off n : Nat} {V : Nat → Int} (h : Rwo w lb off n V) (hlb : lb < w.heap.size) (k : Below w.heap.size w w') : Rwo w' lb off n V :=
  ⟨fun i hi => (k.cell (p := ⟨lb, off + i, none⟩) hlb).trans (h.cell i hi), fun i hi => (k.frozen (p := ⟨lb, off + i, none⟩) hlb).trans (h.free i hi)⟩
/-- what the sort keeps: the same numbers, the row alone turned -/
structure Srt (lb off n : Nat) (V : Nat → Int) (w w' : World) : Prop where
  ex : ∃ U, Sw n V U ∧ Rwo w' lb off n U
  trn : Trn lb off n w w'
theorem Srt.refl {lb off n : Nat} {V : Nat → Int} {w : World} (h : Rwo w lb off n V) : Srt lb off n V w w := ⟨⟨V, Sw.refl _ _, h⟩, Trn.refl _ _ _ _⟩
theorem Srt.drew {lb off n : Nat} {V : Nat → Int} {w w' : World} (h : Srt lb off n V w w') : Srt lb off n V w w'.drew := by
  obtain ⟨⟨U, s, r⟩, t⟩ := h
  exact ⟨⟨U, s, r.drew⟩, t.drew⟩
theorem Srt.below {lb off n : Nat} {V : Nat → Int} {w w' w'' : World} (h : Srt lb off n V w w') (hlb : lb < w.heap.size) (k : Below w'.heap.size w' w'') : Srt lb off n V w w'' := by
  obtain ⟨⟨U, s, r⟩, t⟩ := h
  exact ⟨⟨U, s, r.below (t.lt hlb) k⟩, t.below hlb k⟩
theorem Srt.trans {lb off n : Nat} {V : Nat → Int} {w w' w'' : World} (h : Trn lb off n w w') {U : Nat → Int} (s : Sw n V U) (k : Srt lb off n U w' w'') : Srt lb off n V w w'' := by
  obtain ⟨⟨X, s2, r2⟩, t⟩ := k
  exact ⟨⟨X, s.trans s2, r2⟩, h.trans t⟩
theorem Srt.swp {lb off n : Nat} {V U : Nat → Int} {w w' : World} (hT : Trn lb off n w w') (hS : Sw n V U) (hR : Rwo w' lb off n U) {i j : Nat} (hi : i < n) (hj : j < n) :
    Srt lb off n V w ((w'.setCell ⟨lb, off + i, none⟩ (.int .i64 (U j))).setCell ⟨lb, off + j, none⟩ (.int .i64 (U i))) :=
  ⟨⟨_, hS.trans (Sw.swp U hi hj), hR.swp hi hj⟩, (hT.set i hi _).set j hj _⟩
set_option maxRecDepth 20000 in
set_option maxHeartbeats 1000000 in
theorem swapRange_any (lb off n cap a b c : Nat) (f : Value) (V : Nat → Int) (w : World) (h : Rwo w lb off n V) (ha : a + c ≤ n) (hb : b + c ≤ n) (hn : n ≤ 1000) (hne : a + c ≤ b ∨ b + c ≤ a) :
    Calls Try.prog 107 #[.slice (some ⟨lb, off, none⟩) n cap, .int .i64 a, .int .i64 b, .int .i64 c, f] w fun e w' => e = .returned (.tuple #[]) ∧ Srt lb off n V w w' := by
  go_enter Try.func107, Try.ntmps107
  go_wp2
  go_loopw [10] (fun i wr => ∃ (k : Nat), k ≤ c ∧ i = .int .i64 (k : Int) ∧ Srt lb off n V w wr) (fun i _ => c - (RowKit.intOf i).toNat)
  case atStart => exact ⟨0, Nat.zero_le _, rfl, Srt.refl h⟩
  case round =>
    obtain ⟨k, hk, rfl, hSR⟩ := hrel
    by_cases hlt : k < c
    · obtain ⟨⟨U, hS, hR⟩, hT⟩ := hSR
      have hlt' : (k : Int) < (c : Int) := by omega
      obtain ⟨x, hx⟩ : ∃ x : Nat, a + k = x := ⟨_, rfl⟩
      obtain ⟨y, hy⟩ : ∃ y : Nat, b + k = y := ⟨_, rfl⟩
      have wa : IntKind.i64.wrap ((a : Int) + (k : Int)) = (x : Int) := by rw [i64w (by omega)]; omega
      have wb : IntKind.i64.wrap ((b : Int) + (k : Int)) = (y : Int) := by rw [i64w (by omega)]; omega
      have i1 : (x : Int) < (n : Int) := by omega
      have i2 : (y : Int) < (n : Int) := by omega
      have HS2 := (Srt.swp hT hS hR (i := x) (j := y) (by omega) (by omega)).drew
      have ca : wr.cell? ⟨lb, off + x, none⟩ = some (.int .i64 (U x)) := hR.cell x (by omega)
      have cb : wr.cell? ⟨lb, off + y, none⟩ = some (.int .i64 (U y)) := hR.cell y (by omega)
      have fa : wr.frozen? ⟨lb, off + x, none⟩ = false := hR.free x (by omega)
      have fb : wr.frozen? ⟨lb, off + y, none⟩ = false := hR.free y (by omega)
      have cc : ∀ v, (wr.setCell ⟨lb, off + x, none⟩ v).cell? ⟨lb, off + y, none⟩ = some (.int .i64 (U y)) := fun v => by rw [cset_other (by intro q; injection q with q1 q2; omega)]; exact cb
      go_upto_region 3 with fail
      refine wp_region_held_drew (S := fun _ => True) (by kernel_rfl) trivial (fun hHeld => ?_)
      refine tq 0 hHeld ?_
      refine tq 1 hHeld ?_
      refine tq 2 hHeld ?_
      refine tq 3 hHeld ?_
      refine tq 4 hHeld ?_
      refine tq 5 hHeld ?_
      refine tq 6 hHeld ?_
      refine tq 7 hHeld ?_
      refine tq 8 hHeld ?_
      refine tq 9 hHeld ?_
      refine tq 10 hHeld ?_
      refine tq 11 hHeld ?_
      refine tq 12 hHeld ?_
      refine tq 14 hHeld ?_
      refine tq 15 hHeld ?_
      refine tq 16 hHeld ?_
      refine tq 17 hHeld ?_
      refine tq 18 hHeld ?_
      refine wpAnyH_ready (rs := [13, 19]) (by kernel_rfl) (by simp) ?_
      refine AllReadyH.cons rfl (fun K hK => ?_) (AllReadyH.cons rfl (fun K hK => ?_) AllReadyH.nil)
      · (go_simp; refine tr hK (fun hHeld => ?_) trivial; clear hK K)
        refine tc 19 fun K hK => ?_
        (go_simp; refine tr hK (fun hHeld => ?_) trivial; clear hK K)
        refine tq 20 hHeld ?_
        refine tc 21 fun K hK => ?_
        (go_simp; refine tr hK (fun hHeld => ?_) trivial; clear hK K)
        refine tq 22 hHeld ?_
        refine tc 23 fun K hK => ?_
        (go_simp; refine tr hK (fun hHeld => ?_) trivial; clear hK K)
        refine wpAnyH_done (by kernel_rfl) ?_ _
        go_wp2
        go_roundw
        case rel => exact ⟨k + 1, by omega, by go_num, HS2⟩
        case measure => simp [RowKit.intOf]; omega
      · (go_simp; refine tr hK (fun hHeld => ?_) trivial; clear hK K)
        refine tc 13 fun K hK => ?_
        (go_simp; refine tr hK (fun hHeld => ?_) trivial; clear hK K)
        refine tq 20 hHeld ?_
        refine tc 21 fun K hK => ?_
        (go_simp; refine tr hK (fun hHeld => ?_) trivial; clear hK K)
        refine tq 22 hHeld ?_
        refine tc 23 fun K hK => ?_
        (go_simp; refine tr hK (fun hHeld => ?_) trivial; clear hK K)
        refine wpAnyH_done (by kernel_rfl) ?_ _
        go_wp2
        go_roundw
        case rel => exact ⟨k + 1, by omega, by go_num, HS2⟩
        case measure => simp [RowKit.intOf]; omega
    · have hlt' : ¬ ((k : Int) < (c : Int)) := by omega
      go_wp2
      go_end0
      exact ⟨rfl, hSR⟩
end Go.Proofs.Ytbngdlbecdloiaa
namespace Go.Proofs.Ytbngdlbecdloiaa
open Go.RowKit
set_option linter.unusedVariables false
set_option linter.unusedSimpArgs false
set_option maxRecDepth 20000 in
set_option maxHeartbeats 1000000 in
theorem rotate_any (lb off n cap a m b : Nat) (f : Value) (V : Nat → Int) (w : World) (h : Rwo w lb off n V) (ha : a < m) (hm : m < b) (hb : b ≤ n) (hn : n ≤ 1000) :
    Calls Try.prog 106 #[.slice (some ⟨lb, off, none⟩) n cap, .int .i64 a, .int .i64 m, .int .i64 b, f] w fun e w' => e = .returned (.tuple #[]) ∧ Srt lb off n V w w' := by
  have w1 : IntKind.i64.wrap ((m : Int) - (a : Int)) = ((m - a : Nat) : Int) := by rw [i64w (by omega)]; omega
  have w2 : IntKind.i64.wrap ((b : Int) - (m : Int)) = ((b - m : Nat) : Int) := by rw [i64w (by omega)]; omega
  go_enter Try.func106, Try.ntmps106
  go_wp2
  go_loopw [10, 11] (fun i j wr => ∃ (p q : Nat), 0 < p ∧ 0 < q ∧ a + p ≤ m ∧ m + q ≤ b ∧ i = .int .i64 (p : Int) ∧ j = .int .i64 (q : Int) ∧ Srt lb off n V w wr) (fun i j _ => (RowKit.intOf i).toNat + (RowKit.intOf j).toNat)
  case atStart => exact ⟨m - a, b - m, by omega, by omega, by omega, by omega, rfl, rfl, Srt.refl h⟩
  case round =>
    obtain ⟨p, q, hp, hq, hpa, hqb, rfl, rfl, hSR⟩ := hrel
    clear w1 w2
    obtain ⟨⟨U, hS, hR⟩, hT⟩ := hSR
    obtain ⟨x, hx⟩ : ∃ x : Nat, m - p = x := ⟨_, rfl⟩
    have wx : IntKind.i64.wrap ((m : Int) - (p : Int)) = (x : Int) := by rw [i64w (by omega)]; omega
    by_cases he : p = q
    · subst he
      have he2 : ((p : Int) != (p : Int)) = false := by simp
      have he3 : (p != p) = false := by simp
      go_wp2_with (go_at_call 107; refine (swapRange_any lb off n cap _ _ _ _ U _ hR (by omega) (by omega) (by omega) (by omega)).mono ?_; rintro e w1 ⟨rfl, hS1⟩)
      go_end0
      exact ⟨rfl, Srt.trans hT hS hS1⟩
    · have he1 : ¬ ((p : Int) = (q : Int)) := by omega
      have he2 : ((p : Int) != (q : Int)) = true := by simp; omega
      by_cases hl : q < p
      · have hl1 : (q : Int) < (p : Int) := by omega
        have wd : IntKind.i64.wrap ((p : Int) - (q : Int)) = ((p - q : Nat) : Int) := by rw [i64w (by omega)]; omega
        go_wp2_with (go_at_call 107; refine (swapRange_any lb off n cap _ _ _ _ U _ hR (by omega) (by omega) (by omega) (by omega)).mono ?_; rintro e w1 ⟨rfl, hS1⟩)
        go_roundw
        case rel => exact ⟨p - q, q, by omega, by omega, by omega, by omega, rfl, rfl, Srt.trans hT hS hS1⟩
        case measure => simp [RowKit.intOf]; omega
      · have hl1 : ¬ ((q : Int) < (p : Int)) := by omega
        have wd : IntKind.i64.wrap ((q : Int) - (p : Int)) = ((q - p : Nat) : Int) := by rw [i64w (by omega)]; omega
        obtain ⟨y, hy⟩ : ∃ y : Nat, m + q - p = y := ⟨_, rfl⟩
        have wy : IntKind.i64.wrap ((m : Int) + (q : Int)) = (m : Int) + (q : Int) := i64w (by omega)
        have wy2 : IntKind.i64.wrap ((m : Int) + (q : Int) - (p : Int)) = (y : Int) := by rw [i64w (by omega)]; omega
        go_wp2_with (go_at_call 107; refine (swapRange_any lb off n cap _ _ _ _ U _ hR (by omega) (by omega) (by omega) (by omega)).mono ?_; rintro e w1 ⟨rfl, hS1⟩)
        go_roundw
        case rel => exact ⟨p, q - p, by omega, by omega, by omega, by omega, rfl, rfl, Srt.trans hT hS hS1⟩
        case measure => simp [RowKit.intOf]; omega
/-- what is asked of the comparison: it reads, and lays new blocks alone -/
def Cmp (lb off n : Nat) (N : Int) (pb : Value) (w : World) : Prop := ∀ (wr : World), Trn lb off n w wr → ∀ p q : Int, 0 ≤ p ∧ p < N → 0 ≤ q ∧ q < N →
  Calls Try.prog 82 #[.int .i64 p, .int .i64 q, pb] wr fun e w' => (∃ r : Int, e = .returned (.int .i64 r)) ∧ Below wr.heap.size wr w'
theorem Cmp.at {lb off n : Nat} {N : Int} {pb : Value} {w : World} (h : Cmp lb off n N pb w) {wr : World} (hT : Trn lb off n w wr) {p q : Int} (hp : 0 ≤ p ∧ p < N) (hq : 0 ≤ q ∧ q < N) :
  Calls Try.prog 82 #[.int .i64 p, .int .i64 q, pb] wr fun e w' => (∃ r : Int, e = .returned (.int .i64 r)) ∧ Below wr.heap.size wr w' := h wr hT p q hp hq
theorem Cmp.on {lb off n : Nat} {N : Int} {pb : Value} {w w1 : World} (h : Cmp lb off n N pb w) (hT : Trn lb off n w w1) : Cmp lb off n N pb w1 := fun wr h1 => h wr (hT.trans h1)
theorem Sw.all {n : Nat} {V U : Nat → Int} {P : Int → Prop} (h : Sw n V U) (hV : ∀ i, i < n → P (V i)) : ∀ i, i < n → P (U i) := fun i hi => by
  obtain ⟨s, s1, s2, s3⟩ := h
  rw [s3 i hi]; exact hV _ (s1 i hi)
set_option maxRecDepth 20000 in
set_option maxHeartbeats 1000000 in
theorem insertion_any (lb off n cap : Nat) (N : Int) (pb : Value) (V : Nat → Int) (w : World) (h : Rwo w lb off n V) (hV : ∀ i, i < n → 0 ≤ V i ∧ V i < N) (hC : Cmp lb off n N pb w) (hl : lb < w.heap.size) (hn : n ≤ 1000) (a b : Nat) (hb : b ≤ n) (ha : a ≤ 1000) :
    Calls Try.prog 103 #[.slice (some ⟨lb, off, none⟩) n cap, .int .i64 a, .int .i64 b, .func (.func 82) #[] #[pb]] w fun e w' => e = .returned (.tuple #[]) ∧ Srt lb off n V w w' := by
  have w1 : IntKind.i64.wrap ((a : Int) + (1 : Int)) = ((a + 1 : Nat) : Int) := by rw [i64w (by omega)]; omega
  go_enter Try.func103, Try.ntmps103
  go_wp2
  go_loopg [8] (b - a) (fun g1 i wr => ∃ (x : Nat), a < x ∧ x ≤ a + 1 + b ∧ b - x ≤ g1 ∧ i = .int .i64 (x : Int) ∧ Srt lb off n V w wr)
  case atStart => exact ⟨a + 1, by omega, by omega, by omega, rfl, Srt.refl h⟩
  case round =>
    obtain ⟨x, hax, hxb, hg1, rfl, hSR⟩ := hrel
    clear w1
    by_cases hlt : x < b
    · have hlt1 : (x : Int) < (b : Int) := by omega
      have wx : IntKind.i64.wrap ((x : Int) + (1 : Int)) = ((x + 1 : Nat) : Int) := by rw [i64w (by omega)]; omega
      go_wp2
      go_loopg [9] x (fun g2 j wr => ∃ (y : Nat), a ≤ y ∧ y ≤ x ∧ y ≤ g2 ∧ j = .int .i64 (y : Int) ∧ Srt lb off n V w wr)
      case atStart => exact ⟨x, by omega, by omega, by omega, rfl, hSR⟩
      case round =>
        clear hSR
        obtain ⟨y, hay, hyx, hg2, rfl, hSR⟩ := hrel
        by_cases hlt2 : a < y
        · have hlt3 : (a : Int) < (y : Int) := by omega
          have hlt4 : decide ((y : Int) > (a : Int)) = true := decide_eq_true hlt3
          obtain ⟨z, hz⟩ : ∃ z : Nat, y - 1 = z := ⟨_, rfl⟩
          have wz : IntKind.i64.wrap ((y : Int) - (1 : Int)) = (z : Int) := by rw [i64w (by omega)]; omega
          have i1 : (y : Int) < (n : Int) := by omega
          have i2 : (z : Int) < (n : Int) := by omega
          go_upto_region 4 with fail
          go_cut [34] (fun s wc => ∃ r : Bool, s = .bool r ∧ Srt lb off n V w wc)
          case first =>
            obtain ⟨⟨U, hS, hR⟩, hT⟩ := hSR
            have hU := hS.all (P := fun v => 0 ≤ v ∧ v < N) hV
            have hlw := hT.lt hl
            have ca : wr.cell? ⟨lb, off + y, none⟩ = some (.int .i64 (U y)) := hR.cell y (by omega)
            have cb : wr.cell? ⟨lb, off + z, none⟩ = some (.int .i64 (U z)) := hR.cell z (by omega)
            refine wp_region_held_drew (S := fun w' => w'.cell? ⟨lb, off + y, none⟩ = some (.int .i64 (U y)) ∧ w'.cell? ⟨lb, off + z, none⟩ = some (.int .i64 (U z))) (by kernel_rfl) ?_ (fun hHeld => ?_)
            · (try dsimp only)
              (first | (go_simp; done) | (go_keep; done))
            refine tq 0 hHeld ?_
            refine tq 1 hHeld ?_
            refine tq 2 hHeld ?_
            refine tq 3 hHeld ?_
            refine tq 4 hHeld ?_
            refine tq 5 hHeld ?_
            refine tq 6 hHeld ?_
            refine tq 7 hHeld ?_
            refine tq 8 hHeld ?_
            refine tq 9 hHeld ?_
            refine tq 10 hHeld ?_
            refine tq 11 hHeld ?_
            refine tq 12 hHeld ?_
            refine tq 13 hHeld ?_
            refine tc 14 fun K hK => ?_
            (go_simp; (go_at_call 82; refine (hC.at (by first | exact hT | exact hT.drew) (hU _ (by omega)) (hU _ (by omega))).mono ?_; rintro e w1 ⟨⟨r, rfl⟩, hb1⟩); (try go_wp2_with fail); refine tr hK (fun hHeld => ?_) ⟨(hb1.cell (p := ⟨lb, off + y, none⟩) hlw).trans ca, (hb1.cell (p := ⟨lb, off + z, none⟩) hlw).trans cb⟩; clear hK K)
            refine tq 15 hHeld ?_
            refine tq 16 hHeld ?_
            refine wpAnyH_done (by kernel_rfl) ?_ _
            go_wp2_with fail
            go_meet
            exact ⟨_, rfl, (Srt.below (w' := wr.drew) (Srt.drew ⟨⟨U, hS, hR⟩, hT⟩) hl hb1)⟩
          case rest =>
          clear hSR
          obtain ⟨r, rfl, hSR⟩ := hcut
          cases r with
          | false =>
            go_wp2_with fail
            go_roundg (b - x - 1)
            case measure => omega
            case rel => exact ⟨x + 1, by omega, by omega, by omega, by go_num, hSR⟩
          | true =>
            obtain ⟨⟨U, hS, hR⟩, hT⟩ := hSR
            have HS2 := (Srt.swp hT hS hR (i := y) (j := z) (by omega) (by omega)).drew
            have ca : wc.cell? ⟨lb, off + y, none⟩ = some (.int .i64 (U y)) := hR.cell y (by omega)
            have cb : wc.cell? ⟨lb, off + z, none⟩ = some (.int .i64 (U z)) := hR.cell z (by omega)
            have fa : wc.frozen? ⟨lb, off + y, none⟩ = false := hR.free y (by omega)
            have fb : wc.frozen? ⟨lb, off + z, none⟩ = false := hR.free z (by omega)
            have cc : ∀ v, (wc.setCell ⟨lb, off + y, none⟩ v).cell? ⟨lb, off + z, none⟩ = some (.int .i64 (U z)) := fun v => by rw [cset_other (by intro q; injection q with q1 q2; omega)]; exact cb
            go_upto_region 6 with fail
            refine wp_region_held_drew (S := fun _ => True) (by kernel_rfl) trivial (fun hHeld => ?_)
            refine tq 0 hHeld ?_
            refine tq 1 hHeld ?_
            refine tq 2 hHeld ?_
            refine tq 3 hHeld ?_
            refine tq 4 hHeld ?_
            refine tq 5 hHeld ?_
            refine tq 6 hHeld ?_
            refine tq 7 hHeld ?_
            refine tq 8 hHeld ?_
            refine tq 10 hHeld ?_
            refine tq 11 hHeld ?_
            refine tq 12 hHeld ?_
            refine wpAnyH_ready (rs := [9, 13]) (by kernel_rfl) (by simp) ?_
            refine AllReadyH.cons rfl (fun K hK => ?_) (AllReadyH.cons rfl (fun K hK => ?_) AllReadyH.nil)
            · (go_simp; refine tr hK (fun hHeld => ?_) trivial; clear hK K)
              refine tc 13 fun K hK => ?_
              (go_simp; refine tr hK (fun hHeld => ?_) trivial; clear hK K)
              refine tq 14 hHeld ?_
              refine tc 15 fun K hK => ?_
              (go_simp; refine tr hK (fun hHeld => ?_) trivial; clear hK K)
              refine tq 16 hHeld ?_
              refine tc 17 fun K hK => ?_
              (go_simp; refine tr hK (fun hHeld => ?_) trivial; clear hK K)
              refine wpAnyH_done (by kernel_rfl) ?_ _
              go_wp2_with fail
              go_roundg (y - 1)
              case measure => omega
              case rel => exact ⟨z, by omega, by omega, by omega, by go_num, HS2⟩
            · (go_simp; refine tr hK (fun hHeld => ?_) trivial; clear hK K)
              refine tc 9 fun K hK => ?_
              (go_simp; refine tr hK (fun hHeld => ?_) trivial; clear hK K)
              refine tq 14 hHeld ?_
              refine tc 15 fun K hK => ?_
              (go_simp; refine tr hK (fun hHeld => ?_) trivial; clear hK K)
              refine tq 16 hHeld ?_
              refine tc 17 fun K hK => ?_
              (go_simp; refine tr hK (fun hHeld => ?_) trivial; clear hK K)
              refine wpAnyH_done (by kernel_rfl) ?_ _
              go_wp2_with fail
              go_roundg (y - 1)
              case measure => omega
              case rel => exact ⟨z, by omega, by omega, by omega, by go_num, HS2⟩
        · have hlt3 : ¬ ((a : Int) < (y : Int)) := by omega
          have hlt4 : decide ((y : Int) > (a : Int)) = false := decide_eq_false hlt3
          go_upto_region 4 with fail
          refine wp_region_held_drew (S := fun _ => True) (by kernel_rfl) trivial (fun hHeld => ?_)
          refine tq 0 hHeld ?_
          refine tq 1 hHeld ?_
          refine tq 2 hHeld ?_
          refine tq 3 hHeld ?_
          refine tn 4 hHeld ?_
          refine tn 5 hHeld ?_
          refine tn 6 hHeld ?_
          refine tn 7 hHeld ?_
          refine tn 8 hHeld ?_
          refine tn 9 hHeld ?_
          refine tn 10 hHeld ?_
          refine tn 11 hHeld ?_
          refine tn 12 hHeld ?_
          refine tn 13 hHeld ?_
          refine tn 14 hHeld ?_
          refine tn 15 hHeld ?_
          refine tq 16 hHeld ?_
          refine wpAnyH_done (by kernel_rfl) ?_ _
          go_wp2_with fail
          go_roundg (b - x - 1)
          case measure => omega
          case rel => exact ⟨x + 1, by omega, by omega, by omega, by go_num, Srt.drew hSR⟩
    · have hlt1 : ¬ ((x : Int) < (b : Int)) := by omega
      go_wp2
      go_end0
      exact ⟨rfl, hSR⟩
end Go.Proofs.Ytbngdlbecdloiaa
