/- The specification's texts of numbers. -/
import Derived.Test.YteoegjginncffaaDoorNums
import Derived.Test.YteoegjginncffaaDoorFxD
import Derived.Test.YteoegjginncffaaDoorTq
import Derived.Test.YteoegjginncffaaDoorVec
import Derived.Laws.BytesString
import Derived.Laws.Cells
import Derived.Deep.RegionHeld3
import Derived.Deep.DeepCutAuto
namespace Go.Proofs.YteoegjginncffaaDoor
open Go.RowKit Go.Lib
set_option linter.unusedVariables false
set_option linter.unusedSimpArgs false
abbrev str (l : List UInt8) : Value := .string ⟨l.toArray⟩
theorem str_add (a b : List UInt8) : (⟨a.toArray⟩ : ByteArray) ++ ⟨b.toArray⟩ = ⟨(a ++ b).toArray⟩ := by
  apply ByteArray.ext
  simp
theorem conv_one (w : World) (b c m : Nat) (hm : m < 10) (hc : w.cell? ⟨b, 0, none⟩ = some (.int .u8 (48 + (m : Int)))) : (convert 22 9 (.slice (some ⟨b, 0, none⟩) 1 c)).run Tryd.prog w = .ok (str [fig m]) w := by
  rw [run_convert_bytes_string w _ _ 5 _ _ _ Tryd.underlying22 Tryd.underlying5 Tryd.underlying9]
  have hl : (loadCells ⟨b, 0, none⟩ 1).run Tryd.prog w = .ok ([48 + (m : Int)].map (Value.int .u8)).toArray w := by
    refine run_loadCells_list w ⟨b, 0, none⟩ [.int .u8 (48 + (m : Int))] fun j v hv => ?_
    match j, hv with
    | 0, hv => simp at hv; subst hv; simpa [Addr.add] using hc
  rw [run_bytesToString w _ 1 c [48 + (m : Int)] hl]
  simp only [List.foldl_cons, List.foldl_nil]
  rw [show ((48 : Int) + (m : Int)).toNat = 48 + m by omega]
  rfl
theorem l1Dec_small (n : Nat) (w : World) (h : n < 10) :
    Calls Tryd.prog 18 #[.int .i64 (n : Int)] w fun e w' => e = .returned (str (decDigits n)) ∧ Below w.heap.size w w' := by
  have hset := cset_map
  have h0 : ¬ ((n : Int) < -9223372036854775807) := by omega
  have h1 : ¬ ((n : Int) < 0) := by omega
  have h2 : (n : Int) < 10 := by omega
  have hcv := conv_one (w.alloc (.cells #[.int .u8 (48 + (n : Int))] 5)) w.heap.size 1 n h (by go_simp)
  go_enter Tryd.func18, Tryd.ntmps18
  go_wp2
  go_ret
  exact ⟨by rw [dec1 h]; rfl, (Below.refl _ _).alloc (Nat.le_refl _) _⟩
theorem _root_.Go.RowKit.Below.ofDrewF {B : Nat} {w w' : World} (h : Below B w.drew w') : Below B w w' := ⟨h.os, h.tape, h.output, h.size, h.block⟩
set_option maxHeartbeats 2000000 in
theorem l1Dec_any (n : Nat) : n ≤ 1000000000000 → ∀ (w : World), Calls Tryd.prog 18 #[.int .i64 (n : Int)] w fun e w' => e = .returned (str (decDigits n)) ∧ Below w.heap.size w w' := by
  induction n using Nat.strongRecOn with
  | _ n ih0 =>
    intro hn w
    by_cases h : n < 10
    · exact l1Dec_small n w h
    · have ih : ∀ m, m < n → ∀ w, Calls Tryd.prog 18 #[.int .i64 (m : Int)] w fun e w' => e = .returned (str (decDigits m)) ∧ Below w.heap.size w w' := fun m hm => ih0 m hm (by omega)
      clear ih0
      have hset := cset_map
      have h0 : ¬ ((n : Int) < -9223372036854775807) := by omega
      have h1 : ¬ ((n : Int) < 0) := by omega
      have h2 : ¬ ((n : Int) < 10) := by omega
      obtain ⟨d, hd⟩ : ∃ d : Nat, n / 10 = d := ⟨_, rfl⟩
      obtain ⟨m, hm⟩ : ∃ m : Nat, n % 10 = m := ⟨_, rfl⟩
      have hm10 : m < 10 := by omega
      have hq : IntKind.i64.wrap ((n : Int) / 10) = (d : Int) := by rw [i64w (by omega)]; omega
      have hr : (n : Int).tmod 10 = (m : Int) := by rw [Int.tmod_eq_emod_of_nonneg (by omega)]; omega
      have hw : IntKind.i64.wrap (48 + (m : Int)) = 48 + (m : Int) := i64w (by omega)
      have hu : IntKind.u8.wrap (48 + (m : Int)) = 48 + (m : Int) := by rw [IntKind.wrap_u8]; omega
      have hD : Shut (n / 10 = d ∧ n % 10 = m) := ⟨hd, hm⟩
      have ihd := ih d (by omega)
      have hln : ¬ (9223372036854775807 < (decDigits d).length + 1) := by have := dec_len d; omega
      clear ih hd hm
      go_enter Tryd.func18, Tryd.ntmps18
      go_upto_region 7 with fail
      refine wp_region_held_drew (S := fun w' => True) (by kernel_rfl) trivial (fun hHeld => ?_)
      refine tq 0 hHeld ?_
      refine tq 1 hHeld ?_
      refine tq 3 hHeld ?_
      refine tq 4 hHeld ?_
      refine tq 5 hHeld ?_
      refine tq 6 hHeld ?_
      refine wpAnyH_ready (rs := [2, 7]) (by kernel_rfl) (by simp) ?_
      refine AllReadyH.cons (o := ⟨_, _, _, _, _, _⟩) rfl (fun K hK => ?_) (AllReadyH.cons (o := ⟨_, _, _, _, _, _⟩) rfl (fun K hK => ?_) AllReadyH.nil)
      · (go_simp; (go_at_call 18; refine (ihd _).mono ?_; rintro e w1 ⟨rfl, hb1⟩); (try go_wp2_with fail); refine tr hK (fun hHeld => ?_) trivial; clear hK K)
        have hcv := conv_one (w1.alloc (.cells #[.int .u8 (48 + (m : Int))] 5)) w1.heap.size 1 m hm10 (by go_simp)
        (refine tc 7 fun K hK => ?_; go_simp; refine tr hK (fun hHeld => ?_) trivial; clear hK K)
        (refine tc 8 fun K hK => ?_; go_simp; refine tr hK (fun hHeld => ?_) trivial; clear hK K)
        refine tq 9 hHeld ?_
        refine tq 10 hHeld ?_
        refine wpAnyH_done (by kernel_rfl) ?_ _
        go_wp2_with fail
        go_ret
        exact ⟨(show Ending.returned (.string (⟨(decDigits d).toArray⟩ ++ ⟨[fig m].toArray⟩)) = _ by rw [str_add, decS h, hD.out.1, hD.out.2]), (hb1.ofDrewF.alloc (by have := hb1.size; rwa [World.size_drew] at this) _)⟩
      · have hcv := conv_one (w.alloc (.cells #[.int .u8 (48 + (m : Int))] 5)).drew w.heap.size 1 m hm10 (by go_simp)
        (go_simp; refine tr hK (fun hHeld => ?_) trivial; clear hK K)
        refine wpAnyH_ready (rs := [2, 8]) (by kernel_rfl) (by simp) ?_
        refine AllReadyH.cons (o := ⟨_, _, _, _, _, _⟩) rfl (fun K hK => ?_) (AllReadyH.cons (o := ⟨_, _, _, _, _, _⟩) rfl (fun K hK => ?_) AllReadyH.nil)
        · (go_simp; (go_at_call 18; refine (ihd _).mono ?_; rintro e w1 ⟨rfl, hb1⟩); (try go_wp2_with fail); refine tr hK (fun hHeld => ?_) trivial; clear hK K)
          have hcw : w1.cell? ⟨w.heap.size, 0, none⟩ = some (.int .u8 (48 + (m : Int))) := (hb1.cell (p := ⟨w.heap.size, 0, none⟩) (by simp)).trans (by go_simp)
          have hcv := conv_one w1 w.heap.size 1 m hm10 hcw
          (refine tc 8 fun K hK => ?_; go_simp; refine tr hK (fun hHeld => ?_) trivial; clear hK K)
          refine tq 9 hHeld ?_
          refine tq 10 hHeld ?_
          refine wpAnyH_done (by kernel_rfl) ?_ _
          go_wp2_with fail
          go_ret
          exact ⟨(show Ending.returned (.string (⟨(decDigits d).toArray⟩ ++ ⟨[fig m].toArray⟩)) = _ by rw [str_add, decS h, hD.out.1, hD.out.2]), (((Below.refl _ _).alloc (Nat.le_refl _) _).drew.trans (hb1.mono (by simp)))⟩
        · (go_simp; refine tr hK (fun hHeld => ?_) trivial; clear hK K)
          refine tc 2 fun K hK => ?_
          (go_simp; (go_at_call 18; refine (ihd _).mono ?_; rintro e w1 ⟨rfl, hb1⟩); (try go_wp2_with fail); refine tr hK (fun hHeld => ?_) trivial; clear hK K)
          refine tq 9 hHeld ?_
          refine tq 10 hHeld ?_
          refine wpAnyH_done (by kernel_rfl) ?_ _
          go_wp2_with fail
          go_ret
          exact ⟨(show Ending.returned (.string (⟨(decDigits d).toArray⟩ ++ ⟨[fig m].toArray⟩)) = _ by rw [str_add, decS h, hD.out.1, hD.out.2]), (((Below.refl _ _).alloc (Nat.le_refl _) _).drew.trans (hb1.mono (by simp)))⟩
theorem l1Many_0 (w : World) : Calls Tryd.prog 30 #[str [48], .int .i64 0] w fun e w' => e = .returned (str []) ∧ w' = w := by
  go_enter Tryd.func30, Tryd.ntmps30
  go_wp2
  go_loop [0, 1, 5] (fun s i o => (o = str [] ∧ s = str [48] ∧ i = .int .i64 0)) (fun _ i _ => (intOf i).toNat)
  case atStart => exact ⟨rfl, rfl, rfl⟩
  case round =>
    rcases hrel with ⟨rfl, rfl, rfl⟩
    · go_wp2
      go_ret
      exact ⟨rfl, rfl⟩
theorem l1Many_1 (w : World) : Calls Tryd.prog 30 #[str [48], .int .i64 1] w fun e w' => e = .returned (str [48]) ∧ w' = w := by
  go_enter Tryd.func30, Tryd.ntmps30
  go_wp2
  go_loop [0, 1, 5] (fun s i o => (o = str [] ∧ s = str [48] ∧ i = .int .i64 1) ∨ (o = str [48] ∧ s = str [48, 48] ∧ i = .int .i64 0)) (fun _ i _ => (intOf i).toNat)
  case atStart => exact .inl ⟨rfl, rfl, rfl⟩
  case round =>
    rcases hrel with ⟨rfl, rfl, rfl⟩ | ⟨rfl, rfl, rfl⟩
    · go_wp2
      go_round
      case rel => exact .inr (⟨by rfl, by rfl, by rfl⟩)
      case measure => simp [intOf]
    · go_wp2
      go_ret
      exact ⟨rfl, rfl⟩
theorem l1Many_2 (w : World) : Calls Tryd.prog 30 #[str [48], .int .i64 2] w fun e w' => e = .returned (str [48, 48]) ∧ w' = w := by
  go_enter Tryd.func30, Tryd.ntmps30
  go_wp2
  go_loop [0, 1, 5] (fun s i o => (o = str [] ∧ s = str [48] ∧ i = .int .i64 2) ∨ (o = str [] ∧ s = str [48, 48] ∧ i = .int .i64 1) ∨ (o = str [48, 48] ∧ s = str [48, 48, 48, 48] ∧ i = .int .i64 0)) (fun _ i _ => (intOf i).toNat)
  case atStart => exact .inl ⟨rfl, rfl, rfl⟩
  case round =>
    rcases hrel with ⟨rfl, rfl, rfl⟩ | ⟨rfl, rfl, rfl⟩ | ⟨rfl, rfl, rfl⟩
    · go_wp2
      go_round
      case rel => exact .inr (.inl ⟨by rfl, by rfl, by rfl⟩)
      case measure => simp [intOf]
    · go_wp2
      go_round
      case rel => exact .inr (.inr (⟨by rfl, by rfl, by rfl⟩))
      case measure => simp [intOf]
    · go_wp2
      go_ret
      exact ⟨rfl, rfl⟩
theorem l1Pad_a (n : Nat) (w : World) (h : n < 10) (hl : (decDigits n).length = 1) : Calls Tryd.prog 19 #[.int .i64 (n : Int)] w fun e w' => e = .returned (str (pad3 n)) ∧ Below w.heap.size w w' := by
  go_enter Tryd.func19, Tryd.ntmps19
  go_wp2_with (first
    | (go_at_call 18; refine (l1Dec_any n (by omega) _).mono ?_; rintro e w1 ⟨rfl, hb1⟩)
    | (go_at_call 30; refine (l1Many_2 _).mono ?_; rintro e w2 ⟨rfl, rfl⟩))
  go_ret
  exact ⟨(show Ending.returned (.string (⟨([48, 48] : List UInt8).toArray⟩ ++ ⟨(decDigits n).toArray⟩)) = _ by rw [str_add, pad3_1 h]), hb1⟩
theorem l1Pad_b (n : Nat) (w : World) (h : ¬ n < 10) (h2 : n < 100) (hl : (decDigits n).length = 2) : Calls Tryd.prog 19 #[.int .i64 (n : Int)] w fun e w' => e = .returned (str (pad3 n)) ∧ Below w.heap.size w w' := by
  go_enter Tryd.func19, Tryd.ntmps19
  go_wp2_with (first
    | (go_at_call 18; refine (l1Dec_any n (by omega) _).mono ?_; rintro e w1 ⟨rfl, hb1⟩)
    | (go_at_call 30; refine (l1Many_1 _).mono ?_; rintro e w2 ⟨rfl, rfl⟩))
  go_ret
  exact ⟨(show Ending.returned (.string (⟨([48] : List UInt8).toArray⟩ ++ ⟨(decDigits n).toArray⟩)) = _ by rw [str_add, pad3_2 h h2]), hb1⟩
theorem l1Pad_c (n : Nat) (w : World) (h : ¬ n < 100) (h2 : n < 1000) (hl : (decDigits n).length = 3) : Calls Tryd.prog 19 #[.int .i64 (n : Int)] w fun e w' => e = .returned (str (pad3 n)) ∧ Below w.heap.size w w' := by
  go_enter Tryd.func19, Tryd.ntmps19
  go_wp2_with (first
    | (go_at_call 18; refine (l1Dec_any n (by omega) _).mono ?_; rintro e w1 ⟨rfl, hb1⟩)
    | (go_at_call 30; refine (l1Many_0 _).mono ?_; rintro e w2 ⟨rfl, rfl⟩))
  go_ret
  exact ⟨(show Ending.returned (.string (⟨([] : List UInt8).toArray⟩ ++ ⟨(decDigits n).toArray⟩)) = _ by rw [str_add, pad3_3 h h2, List.nil_append]), hb1⟩
theorem l1Pad_any (n : Nat) (w : World) (hn : n < 1000) : Calls Tryd.prog 19 #[.int .i64 (n : Int)] w fun e w' => e = .returned (str (pad3 n)) ∧ Below w.heap.size w w' := by
  by_cases h : n < 10
  · exact l1Pad_a n w h (by rw [dec1 h]; rfl)
  · by_cases h2 : n < 100
    · exact l1Pad_b n w h h2 (by rw [dec2 h h2]; rfl)
    · exact l1Pad_c n w h2 hn (by rw [dec3 h2 hn]; rfl)
end Go.Proofs.YteoegjginncffaaDoor
