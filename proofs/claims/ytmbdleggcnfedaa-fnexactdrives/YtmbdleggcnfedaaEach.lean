/- All rows of some columns, told one by one. -/
import Derived.Test.YtmbdleggcnfedaaRfG
import Derived.Test.YtmbdleggcnfedaaVec
import Derived.LoopNIn
import Derived.LoopIn
import Derived.OwnWalkIn
import Derived.RangeFuncBound
import Derived.Shelf.Abstract
import Derived.Deep.DeepCutAuto
namespace Go.Proofs.Ytmbdleggcnfedaa
open Go.RowKit Go.Shelf
set_option linter.unusedVariables false
set_option linter.unusedSimpArgs false
abbrev hdk (cb k : Nat) : Value := .agg #[.int .i64 (k : Int), .pointer (some ⟨cb, 0, none⟩)]
theorem handle_any (cb k : Nat) (w : World) :
    Calls Try.prog 30 #[.pointer (some ⟨cb, 0, none⟩), .int .i64 (k : Int)] w fun e w' => e = .returned (hdk cb k) ∧ Below w.heap.size w w' := by
  go_enter Try.func30, Try.ntmps30
  go_wp2
  exact bodyPost_ret (v := hdk cb k) (by simp [results, Try.results30, go_sem, *]) rfl ⟨rfl, by repeat (first | with_reducible apply Below.refl | (with_reducible apply Below.setCell; rotate_left; focus (first | omega | (simp; done) | (simp; omega))) | (with_reducible apply Below.alloc; rotate_left; focus (first | omega | (simp; done) | (simp; omega))))⟩
theorem each_enters : ∀ args w, (callFunc 17 args).run Try.prog w = .ok (.enter 17 args) w := enters_of Try.func17 (by kernel_rfl) rfl
set_option maxHeartbeats 4000000 in
theorem each_it (cb nn cc : Nat) (ad : Option Addr) (w : World) (hcb : cb < w.heap.size) (hc : w.cell? ⟨cb, 0, none⟩ = some (.slice ad nn cc)) (hn : nn ≤ 1048576) :
    ItC Try.prog 17 #[.pointer (some ⟨cb, 0, none⟩)] (fun k => #[hdk cb k]) nn w := by
  intro l J Jx W hbW hJb hJx hY h0
  have hc' : W.cell? ⟨cb, 0, none⟩ = some (.slice ad nn cc) := (hbW.cell (p := ⟨cb, 0, none⟩) hcb).trans hc
  refine callsIn_of_wp Try.func17 rfl trivial ?_ rfl
  simp only [Try.ntmps17, List.size_toArray, List.length_cons, List.length_nil, Nat.reduceAdd, Nat.reduceSub, Array.replicate_succ, Array.replicate_zero, List.push_toArray, List.append_toArray, List.nil_append, List.cons_append]
  gi_wp2
  gi_loopw [4, 10] (fun _ i wr => ∃ k : Nat, k ≤ nn ∧ i = .int .i64 (k : Int) ∧ J k wr) (fun _ i _ => nn - (intOf i).toNat)
  case atStart => exact ⟨0, Nat.zero_le _, rfl, h0⟩
  case round =>
    obtain ⟨k, hk, rfl, hJ⟩ := hrel
    by_cases hlt : k < nn
    · gi_wp2_with (refine ⟨trivial, rfl, ?_⟩; gi_at_call 30; refine (callsIn_wide.2 (handle_any cb k _)).mono ?_; rintro e w1 ⟨rfl, hb1⟩; have hJ1 := hJb _ _ _ hJ hb1; obtain ⟨fn, tmps, assign, body, hy, hR⟩ := hY k w1 hJ1 hlt)
      refine ⟨rfl, hR.mono ?_⟩
      rintro e w2 (⟨rfl, hJ2⟩ | ⟨rfl, hJx2⟩)
      · gi_wp2
        go_roundw
        case rel => exact ⟨k + 1, by omega, by go_num, hJ2⟩
        case measure => simp [intOf]; omega
      · gi_wp2
        refine bodyPost_ret (results_none rfl _ _ _) rfl ?_
        exact ⟨⟨_, rfl⟩, .inr hJx2⟩
    · gi_wp2
      go_end0
      obtain rfl : k = nn := by omega
      exact ⟨⟨_, rfl⟩, .inl hJ⟩
end Go.Proofs.Ytmbdleggcnfedaa
