/- The library's stable sort, as far as numbers change places: symMerge. -/
import Derived.Test.YtbngdlbecdloiaaB12
import Derived.Deep.RegionHeld3
import Derived.Deep.DeepCutAuto
set_option maxHeartbeats 16000000
set_option maxRecDepth 20000
namespace Go.Proofs.Ytbngdlbecdloiaa
open Go.RowKit
set_option linter.unusedVariables false
set_option linter.unusedSimpArgs false
set_option maxRecDepth 20000 in
set_option maxHeartbeats 1000000 in
theorem symMerge_1 (lb off n cap : Nat) (N : Int) (pb : Value) (V : Nat → Int) (w : World) (h : Rwo w lb off n V) (hV : ∀ i, i < n → 0 ≤ V i ∧ V i < N) (hC : Cmp lb off n N pb w) (hl : lb < w.heap.size) (hn : n ≤ 1000) (a m b : Nat) (ha : m - a = 1) (hm : m < b) (hb : b ≤ n) :
    Calls Try.prog 104 #[.slice (some ⟨lb, off, none⟩) n cap, .int .i64 a, .int .i64 m, .int .i64 b, .func (.func 82) #[] #[pb]] w fun e w' => e = .returned (.tuple #[]) ∧ Srt lb off n V w w' := by
  have ham : IntKind.i64.wrap ((m : Int) - (a : Int)) = 1 := by rw [i64w (by omega)]; omega
  go_enter Try.func104, Try.ntmps104
  go_wp2
  go_loopg [10, 11] (b - m) (fun g vi vj wr => ∃ (x y : Nat), m ≤ x ∧ x ≤ y ∧ y ≤ b ∧ y - x ≤ g ∧ vi = .int .i64 (x : Int) ∧ vj = .int .i64 (y : Int) ∧ Srt lb off n V w wr)
  case atStart => exact ⟨m, b, by omega, by omega, by omega, by omega, rfl, rfl, Srt.refl h⟩
  case round =>
    obtain ⟨x, y, hmx, hxy, hyb, hg, rfl, rfl, hSR⟩ := hrel
    by_cases hlt : x < y
    · have hlt1 : (x : Int) < (y : Int) := by omega
      obtain ⟨z, hz⟩ : ∃ z : Nat, (x + y) / 2 = z := ⟨_, rfl⟩
      have hs1 : IntKind.i64.wrap ((x : Int) + (y : Int)) = (x : Int) + (y : Int) := i64w (by omega)
      have hs2 : IntKind.u64.wrap ((x : Int) + (y : Int)) = (x : Int) + (y : Int) := by rw [IntKind.wrap_u64]; omega
      have hs3 : ((x : Int) + (y : Int)) / 2 = (z : Int) := by omega
      have hs4 : IntKind.u64.wrap (z : Int) = (z : Int) := by rw [IntKind.wrap_u64]; omega
      have hs5 : IntKind.i64.wrap (z : Int) = (z : Int) := i64w (by omega)
      have hw1 : IntKind.i64.wrap ((z : Int) + (1 : Int)) = ((z + 1 : Nat) : Int) := by rw [i64w (by omega)]; omega
      
      have i1 : (z : Int) < (n : Int) := by omega
      have i2 : (a : Int) < (n : Int) := by omega
      go_upto_region 5 with fail
      go_cut [50] (fun s wc => ∃ r : Bool, s = .bool r ∧ Srt lb off n V w wc)
      case first =>
        obtain ⟨⟨U, hS, hR⟩, hT⟩ := hSR
        have hU := hS.all (P := fun v => 0 ≤ v ∧ v < N) hV
        have hlw := hT.lt hl
        have ca : wr.cell? ⟨lb, off + z, none⟩ = some (.int .i64 (U z)) := hR.cell z (by omega)
        have cb : wr.cell? ⟨lb, off + a, none⟩ = some (.int .i64 (U a)) := hR.cell a (by omega)
        refine wp_region_held_drew (S := fun w' => w'.cell? ⟨lb, off + z, none⟩ = some (.int .i64 (U z)) ∧ w'.cell? ⟨lb, off + a, none⟩ = some (.int .i64 (U a))) (by kernel_rfl) ?_ (fun hHeld => ?_)
        · (try dsimp only)
          (first | (go_simp; done) | (go_keep; done))
        refine tq 0 hHeld ?_
        refine tq 1 hHeld ?_
        refine tq 2 hHeld ?_
        refine tq 3 hHeld ?_
        refine tq 4 hHeld ?_
        refine tq 5 hHeld ?_
        refine tq 6 hHeld ?_
        refine tq 7 hHeld ?_
        refine tq 8 hHeld ?_
        refine tc 9 fun K hK => ?_
        (go_simp; (go_at_call 82; refine (hC.at (by first | exact hT | exact hT.drew) (hU _ (by omega)) (hU _ (by omega))).mono ?_; rintro e w1 ⟨⟨r, rfl⟩, hb1⟩); (try go_wp2_with fail); refine tr hK (fun hHeld => ?_) ⟨(hb1.cell (p := ⟨lb, off + z, none⟩) hlw).trans ca, (hb1.cell (p := ⟨lb, off + a, none⟩) hlw).trans cb⟩; clear hK K)
        refine tq 10 hHeld ?_
        refine wpAnyH_done (by kernel_rfl) ?_ _
        go_wp2_with fail
        go_meet
        exact ⟨_, rfl, (Srt.below (w' := wr.drew) (Srt.drew ⟨⟨U, hS, hR⟩, hT⟩) hl hb1)⟩
      case rest =>
      clear hSR
      obtain ⟨r, rfl, hSR⟩ := hcut
      cases r with
      | true =>
        go_wp2_with fail
        go_roundg (y - z - 1)
        case measure => omega
        case rel => exact ⟨z + 1, y, by omega, by omega, by omega, by omega, by go_num, rfl, hSR⟩
      | false =>
        go_wp2_with fail
        go_roundg (z - x)
        case measure => omega
        case rel => exact ⟨x, z, by omega, by omega, by omega, by omega, rfl, rfl, hSR⟩
    · obtain rfl : x = y := by omega
      have hlt1 : ¬ ((x : Int) < (x : Int)) := by omega
      clear hxy hlt
      obtain ⟨x1, hx1⟩ : ∃ x1 : Nat, x - 1 = x1 := ⟨_, rfl⟩
      have wx : IntKind.i64.wrap ((x : Int) - (1 : Int)) = (x1 : Int) := by rw [i64w (by omega)]; omega
      go_wp2
      go_loopg [13] (x - a) (fun g vk wr => ∃ (k : Nat), a ≤ k ∧ k ≤ x ∧ x - k ≤ g ∧ vk = .int .i64 (k : Int) ∧ Srt lb off n V w wr)
      case atStart => exact ⟨a, by omega, by omega, by omega, rfl, hSR⟩
      case round =>
        clear hSR
        obtain ⟨k, hak, hkx, hg2, rfl, hSR⟩ := hrel
        by_cases hlt2 : k < x1
        · have hlt3 : (k : Int) < (x1 : Int) := by omega
          obtain ⟨⟨U, hS, hR⟩, hT⟩ := hSR
          obtain ⟨q, hq⟩ : ∃ q : Nat, k + 1 = q := ⟨_, rfl⟩
          have wq : IntKind.i64.wrap ((k : Int) + (1 : Int)) = (q : Int) := by rw [i64w (by omega)]; omega
          have i1 : (k : Int) < (n : Int) := by omega
          have i2 : (q : Int) < (n : Int) := by omega
          have HS2 := (Srt.swp hT hS hR (i := k) (j := q) (by omega) (by omega)).drew
          have ca : wr.cell? ⟨lb, off + k, none⟩ = some (.int .i64 (U k)) := hR.cell k (by omega)
          have cb : wr.cell? ⟨lb, off + q, none⟩ = some (.int .i64 (U q)) := hR.cell q (by omega)
          have fa : wr.frozen? ⟨lb, off + k, none⟩ = false := hR.free k (by omega)
          have fb : wr.frozen? ⟨lb, off + q, none⟩ = false := hR.free q (by omega)
          have cc : ∀ v, (wr.setCell ⟨lb, off + k, none⟩ v).cell? ⟨lb, off + q, none⟩ = some (.int .i64 (U q)) := fun v => by rw [cset_other (by intro q; injection q with q1 q2; omega)]; exact cb
          go_upto_region 11 with fail
          refine wp_region_held_drew (S := fun _ => True) (by kernel_rfl) trivial (fun hHeld => ?_)
          refine tq 0 hHeld ?_
          refine tq 1 hHeld ?_
          refine tq 2 hHeld ?_
          refine tq 3 hHeld ?_
          refine tq 4 hHeld ?_
          refine tq 5 hHeld ?_
          refine tq 6 hHeld ?_
          refine tq 7 hHeld ?_
          refine tq 8 hHeld ?_
          refine tq 10 hHeld ?_
          refine tq 11 hHeld ?_
          refine tq 12 hHeld ?_
          refine wpAnyH_ready (rs := [9, 13]) (by kernel_rfl) (by simp) ?_
          refine AllReadyH.cons rfl (fun K hK => ?_) (AllReadyH.cons rfl (fun K hK => ?_) AllReadyH.nil)
          · (go_simp; refine tr hK (fun hHeld => ?_) trivial; clear hK K)
            refine tc 13 fun K hK => ?_
            (go_simp; refine tr hK (fun hHeld => ?_) trivial; clear hK K)
            refine tq 14 hHeld ?_
            refine tc 15 fun K hK => ?_
            (go_simp; refine tr hK (fun hHeld => ?_) trivial; clear hK K)
            refine tq 16 hHeld ?_
            refine tc 17 fun K hK => ?_
            (go_simp; refine tr hK (fun hHeld => ?_) trivial; clear hK K)
            refine wpAnyH_done (by kernel_rfl) ?_ _
            go_wp2_with fail
            go_roundg (x - k - 1)
            case measure => omega
            case rel => exact ⟨q, by omega, by omega, by omega, by go_num, HS2⟩
          · (go_simp; refine tr hK (fun hHeld => ?_) trivial; clear hK K)
            refine tc 9 fun K hK => ?_
            (go_simp; refine tr hK (fun hHeld => ?_) trivial; clear hK K)
            refine tq 14 hHeld ?_
            refine tc 15 fun K hK => ?_
            (go_simp; refine tr hK (fun hHeld => ?_) trivial; clear hK K)
            refine tq 16 hHeld ?_
            refine tc 17 fun K hK => ?_
            (go_simp; refine tr hK (fun hHeld => ?_) trivial; clear hK K)
            refine wpAnyH_done (by kernel_rfl) ?_ _
            go_wp2_with fail
            go_roundg (x - k - 1)
            case measure => omega
            case rel => exact ⟨q, by omega, by omega, by omega, by go_num, HS2⟩
        · have hlt3 : ¬ ((k : Int) < (x1 : Int)) := by omega
          go_wp2
          refine bodyPost_ret (results_none rfl _ _ _) rfl ?_
          exact ⟨rfl, hSR⟩
set_option maxRecDepth 20000 in
set_option maxHeartbeats 1000000 in
theorem symMerge_2 (lb off n cap : Nat) (N : Int) (pb : Value) (V : Nat → Int) (w : World) (h : Rwo w lb off n V) (hV : ∀ i, i < n → 0 ≤ V i ∧ V i < N) (hC : Cmp lb off n N pb w) (hl : lb < w.heap.size) (hn : n ≤ 1000) (a m b : Nat) (ha : 1 < m - a) (hm : b - m = 1) (hb : b ≤ n) :
    Calls Try.prog 104 #[.slice (some ⟨lb, off, none⟩) n cap, .int .i64 a, .int .i64 m, .int .i64 b, .func (.func 82) #[] #[pb]] w fun e w' => e = .returned (.tuple #[]) ∧ Srt lb off n V w w' := by
  have ham : IntKind.i64.wrap ((m : Int) - (a : Int)) = (m : Int) - (a : Int) := i64w (by omega)
  have han : ((m : Int) - (a : Int) == 1) = false := beq_eq_false_iff_ne.2 (by omega)
  have hbm : IntKind.i64.wrap ((b : Int) - (m : Int)) = 1 := by rw [i64w (by omega)]; omega
  go_enter Try.func104, Try.ntmps104
  go_wp2
  go_loopg [14, 15] (m - a) (fun g vi vj wr => ∃ (x y : Nat), a ≤ x ∧ x ≤ y ∧ y ≤ m ∧ y - x ≤ g ∧ vi = .int .i64 (x : Int) ∧ vj = .int .i64 (y : Int) ∧ Srt lb off n V w wr)
  case atStart => exact ⟨a, m, by omega, by omega, by omega, by omega, rfl, rfl, Srt.refl h⟩
  case round =>
    obtain ⟨x, y, hmx, hxy, hyb, hg, rfl, rfl, hSR⟩ := hrel
    by_cases hlt : x < y
    · have hlt1 : (x : Int) < (y : Int) := by omega
      obtain ⟨z, hz⟩ : ∃ z : Nat, (x + y) / 2 = z := ⟨_, rfl⟩
      have hs1 : IntKind.i64.wrap ((x : Int) + (y : Int)) = (x : Int) + (y : Int) := i64w (by omega)
      have hs2 : IntKind.u64.wrap ((x : Int) + (y : Int)) = (x : Int) + (y : Int) := by rw [IntKind.wrap_u64]; omega
      have hs3 : ((x : Int) + (y : Int)) / 2 = (z : Int) := by omega
      have hs4 : IntKind.u64.wrap (z : Int) = (z : Int) := by rw [IntKind.wrap_u64]; omega
      have hs5 : IntKind.i64.wrap (z : Int) = (z : Int) := i64w (by omega)
      have hw1 : IntKind.i64.wrap ((z : Int) + (1 : Int)) = ((z + 1 : Nat) : Int) := by rw [i64w (by omega)]; omega
      
      have i1 : (m : Int) < (n : Int) := by omega
      have i2 : (z : Int) < (n : Int) := by omega
      go_upto_region 17 with fail
      go_cut [103] (fun s wc => ∃ r : Bool, s = .bool r ∧ Srt lb off n V w wc)
      case first =>
        obtain ⟨⟨U, hS, hR⟩, hT⟩ := hSR
        have hU := hS.all (P := fun v => 0 ≤ v ∧ v < N) hV
        have hlw := hT.lt hl
        have ca : wr.cell? ⟨lb, off + m, none⟩ = some (.int .i64 (U m)) := hR.cell m (by omega)
        have cb : wr.cell? ⟨lb, off + z, none⟩ = some (.int .i64 (U z)) := hR.cell z (by omega)
        refine wp_region_held_drew (S := fun w' => w'.cell? ⟨lb, off + m, none⟩ = some (.int .i64 (U m)) ∧ w'.cell? ⟨lb, off + z, none⟩ = some (.int .i64 (U z))) (by kernel_rfl) ?_ (fun hHeld => ?_)
        · (try dsimp only)
          (first | (go_simp; done) | (go_keep; done))
        refine tq 0 hHeld ?_
        refine tq 1 hHeld ?_
        refine tq 2 hHeld ?_
        refine tq 3 hHeld ?_
        refine tq 4 hHeld ?_
        refine tq 5 hHeld ?_
        refine tq 6 hHeld ?_
        refine tq 7 hHeld ?_
        refine tq 8 hHeld ?_
        refine tc 9 fun K hK => ?_
        (go_simp; (go_at_call 82; refine (hC.at (by first | exact hT | exact hT.drew) (hU _ (by omega)) (hU _ (by omega))).mono ?_; rintro e w1 ⟨⟨r, rfl⟩, hb1⟩); (try go_wp2_with fail); refine tr hK (fun hHeld => ?_) ⟨(hb1.cell (p := ⟨lb, off + m, none⟩) hlw).trans ca, (hb1.cell (p := ⟨lb, off + z, none⟩) hlw).trans cb⟩; clear hK K)
        refine tq 10 hHeld ?_
        refine tq 11 hHeld ?_
        refine wpAnyH_done (by kernel_rfl) ?_ _
        go_wp2_with fail
        go_meet
        exact ⟨_, rfl, (Srt.below (w' := wr.drew) (Srt.drew ⟨⟨U, hS, hR⟩, hT⟩) hl hb1)⟩
      case rest =>
      clear hSR
      obtain ⟨r, rfl, hSR⟩ := hcut
      cases r with
      | true =>
        go_wp2_with fail
        go_roundg (y - z - 1)
        case measure => omega
        case rel => exact ⟨z + 1, y, by omega, by omega, by omega, by omega, by go_num, rfl, hSR⟩
      | false =>
        go_wp2_with fail
        go_roundg (z - x)
        case measure => omega
        case rel => exact ⟨x, z, by omega, by omega, by omega, by omega, rfl, rfl, hSR⟩
    · obtain rfl : x = y := by omega
      have hlt1 : ¬ ((x : Int) < (x : Int)) := by omega
      clear hxy hlt
      go_wp2
      go_loopg [17] m (fun g vk wr => ∃ (k : Nat), x ≤ k ∧ k ≤ m ∧ k ≤ g ∧ vk = .int .i64 (k : Int) ∧ Srt lb off n V w wr)
      case atStart => exact ⟨m, by omega, by omega, by omega, rfl, hSR⟩
      case round =>
        clear hSR
        obtain ⟨k, hak, hkx, hg2, rfl, hSR⟩ := hrel
        by_cases hlt2 : x < k
        · have hlt3 : (x : Int) < (k : Int) := by omega
          obtain ⟨⟨U, hS, hR⟩, hT⟩ := hSR
          obtain ⟨q, hq⟩ : ∃ q : Nat, k - 1 = q := ⟨_, rfl⟩
          have wq : IntKind.i64.wrap ((k : Int) - (1 : Int)) = (q : Int) := by rw [i64w (by omega)]; omega
          have i1 : (k : Int) < (n : Int) := by omega
          have i2 : (q : Int) < (n : Int) := by omega
          have HS2 := (Srt.swp hT hS hR (i := k) (j := q) (by omega) (by omega)).drew
          have ca : wr.cell? ⟨lb, off + k, none⟩ = some (.int .i64 (U k)) := hR.cell k (by omega)
          have cb : wr.cell? ⟨lb, off + q, none⟩ = some (.int .i64 (U q)) := hR.cell q (by omega)
          have fa : wr.frozen? ⟨lb, off + k, none⟩ = false := hR.free k (by omega)
          have fb : wr.frozen? ⟨lb, off + q, none⟩ = false := hR.free q (by omega)
          have cc : ∀ v, (wr.setCell ⟨lb, off + k, none⟩ v).cell? ⟨lb, off + q, none⟩ = some (.int .i64 (U q)) := fun v => by rw [cset_other (by intro q; injection q with q1 q2; omega)]; exact cb
          go_upto_region 23 with fail
          refine wp_region_held_drew (S := fun _ => True) (by kernel_rfl) trivial (fun hHeld => ?_)
          refine tq 0 hHeld ?_
          refine tq 1 hHeld ?_
          refine tq 2 hHeld ?_
          refine tq 3 hHeld ?_
          refine tq 4 hHeld ?_
          refine tq 5 hHeld ?_
          refine tq 6 hHeld ?_
          refine tq 7 hHeld ?_
          refine tq 8 hHeld ?_
          refine tq 10 hHeld ?_
          refine tq 11 hHeld ?_
          refine tq 12 hHeld ?_
          refine wpAnyH_ready (rs := [9, 13]) (by kernel_rfl) (by simp) ?_
          refine AllReadyH.cons rfl (fun K hK => ?_) (AllReadyH.cons rfl (fun K hK => ?_) AllReadyH.nil)
          · (go_simp; refine tr hK (fun hHeld => ?_) trivial; clear hK K)
            refine tc 13 fun K hK => ?_
            (go_simp; refine tr hK (fun hHeld => ?_) trivial; clear hK K)
            refine tq 14 hHeld ?_
            refine tc 15 fun K hK => ?_
            (go_simp; refine tr hK (fun hHeld => ?_) trivial; clear hK K)
            refine tq 16 hHeld ?_
            refine tc 17 fun K hK => ?_
            (go_simp; refine tr hK (fun hHeld => ?_) trivial; clear hK K)
            refine wpAnyH_done (by kernel_rfl) ?_ _
            go_wp2_with fail
            go_roundg (k - 1)
            case measure => omega
            case rel => exact ⟨q, by omega, by omega, by omega, by go_num, HS2⟩
          · (go_simp; refine tr hK (fun hHeld => ?_) trivial; clear hK K)
            refine tc 9 fun K hK => ?_
            (go_simp; refine tr hK (fun hHeld => ?_) trivial; clear hK K)
            refine tq 14 hHeld ?_
            refine tc 15 fun K hK => ?_
            (go_simp; refine tr hK (fun hHeld => ?_) trivial; clear hK K)
            refine tq 16 hHeld ?_
            refine tc 17 fun K hK => ?_
            (go_simp; refine tr hK (fun hHeld => ?_) trivial; clear hK K)
            refine wpAnyH_done (by kernel_rfl) ?_ _
            go_wp2_with fail
            go_roundg (k - 1)
            case measure => omega
            case rel => exact ⟨q, by omega, by omega, by omega, by go_num, HS2⟩
        · have hlt3 : ¬ ((x : Int) < (k : Int)) := by omega
          go_wp2
          refine bodyPost_ret (results_none rfl _ _ _) rfl ?_
          exact ⟨rfl, hSR⟩
end Go.Proofs.Ytbngdlbecdloiaa
