/- The program's texts of numbers; the law. -/
import Derived.Test.YteoegjginncffaaDoorFxS
import Derived.Test.YteoegjginncffaaDoorFxLayT
import Derived.WalkSmall
import Derived.Lib.LaidTab
namespace Go.Proofs.YteoegjginncffaaDoor
open Go.RowKit Go.Lib Go.Shelf
set_option linter.unusedVariables false
set_option linter.unusedSimpArgs false
/-- the table of powers of ten is laid -/
abbrev Tab (w : World) : Prop := TabIs Tryd.prog w "internal/strconv.uint64pow10" .u64 pow10Tab
theorem gTab : Tryd.prog.globalNamed "internal/strconv.uint64pow10" = some 0 := by kernel_rfl
theorem Tab.below {w w' : World} (h : Tab w) (hb : Below w.heap.size w w') : Tab w' := by
  refine var?_below hb gTab ?_ h
  unfold Tab TabIs World.var? at h
  rw [gTab] at h
  simp only [Option.bind_some] at h
  cases e : w.heap[0]? with
  | none => rw [e] at h; simp at h
  | some o => exact (Array.getElem?_eq_some_iff.1 e).1
theorem grow_below (w : World) (k : Nat) (os : Array Obj) : Below w.heap.size w (Go.Sort.grow (w.drewN k) os) :=
  ⟨rfl, rfl, rfl, by simp [Go.Sort.grow], fun i hi => by simp [Go.Sort.grow, Array.getElem?_append_left, hi]⟩
theorem format_any (n : Nat) (w : World) (hn : n ≤ 1000000000000) (ht : Tab w) :
    Calls Tryd.prog 26 #[.int .i64 (n : Int), .int .i64 10] w fun e w' => e = .returned (str (decDigits n)) ∧ Below w.heap.size w w' := by
  refine (Any.strconv_FormatInt_10 lays173 (n : Int) (by omega) (by omega) w ht).mono ?_
  rintro e w' ⟨rfl, k, os, rfl⟩
  refine ⟨?_, grow_below w k os⟩
  unfold itoa
  rw [if_neg (by omega)]
  rfl
theorem format_1000 (m : Nat) (w : World) (hm : m < 1000) (ht : Tab w) :
    Calls Tryd.prog 26 #[.int .i64 (1000 + (m : Int)), .int .i64 10] w fun e w' => e = .returned (str (49 :: pad3 m)) ∧ Below w.heap.size w w' := by
  have q := format_any (1000 + m) w (by omega) ht
  rw [dec1000 hm] at q
  exact q
theorem ext1 (m : Nat) : (⟨(49 :: pad3 m).toArray⟩ : ByteArray).extract 1 4 = ⟨(pad3 m).toArray⟩ := by
  apply ByteArray.ext
  simp [ByteArray.data_extract, pad3]
/-- the text of a number -/
def txtI (c : Int) : List UInt8 := if c < 0 then 45 :: txt c.natAbs else txt c.toNat
theorem txt_len (n : Nat) : (txt n).length ≤ n + 6 := by
  have := dec_len (n / 256)
  unfold txt
  simp only [List.length_append, List.length_cons, List.length_nil, pad3]
  omega
theorem str3 (a b c : List UInt8) : (⟨a.toArray⟩ : ByteArray) ++ ⟨b.toArray⟩ ++ ⟨c.toArray⟩ = ⟨(a ++ b ++ c).toArray⟩ := by rw [str_add, str_add]
set_option maxHeartbeats 1000000 in
theorem sFixText_pos (n : Nat) (w : World) (hn : n ≤ 1000000000) :
    Calls Tryd.prog 7 #[.int .i64 (n : Int)] w fun e w' => e = .returned (str (txt n)) ∧ Below w.heap.size w w' := by
  have hf : fc (n : Int) = (n : Int) := fc_id (by omega) (by omega)
  have h0 : ¬ ((n : Int) < 0) := by omega
  obtain ⟨d, hd⟩ : ∃ d : Nat, n / 256 = d := ⟨_, rfl⟩
  obtain ⟨m, hm⟩ : ∃ m : Nat, n % 256 = m := ⟨_, rfl⟩
  have hq : (n : Int) / 256 = (d : Int) := by omega
  have hr : (n : Int) % 256 = (m : Int) := by omega
  have hD : Shut (n / 256 = d ∧ n % 256 = m) := ⟨hd, hm⟩
  have hd1 : d ≤ 1000000000 := by omega
  have hm1 : m < 1000 := by omega
  clear hd hm
  have l1 := dec_len d
  have l2 : (pad3 m).length = 3 := rfl
  have l3 : ¬ (9223372036854775807 < (decDigits d).length + 1) := by omega
  have l4 : ¬ (9223372036854775807 < (decDigits d).length + 1 + 3) := by omega
  go_enter Tryd.func7, Tryd.ntmps7
  go_wp2_with (first
    | (go_at_call 17; refine (sFixClamp_any _ _).mono ?_; rintro e w1 ⟨rfl, rfl⟩)
    | (go_at_call 18; refine (l1Dec_any d (by omega) _).mono ?_; rintro e w1 ⟨rfl, hb1⟩)
    | (go_at_call 19; refine (l1Pad_any m _ hm1).mono ?_; rintro e w2 ⟨rfl, hb2⟩))
  go_ret
  exact ⟨(show Ending.returned (.string (⟨(decDigits d).toArray⟩ ++ ⟨[46].toArray⟩ ++ ⟨(pad3 m).toArray⟩)) = _ by rw [str3, ← hD.out.1, ← hD.out.2]; rfl), hb1.trans (hb2.mono hb1.size)⟩
theorem sFixText_any (a : Int) (w : World) (ha : (Lit.int .i64 a).wf = true) :
    Calls Tryd.prog 7 #[.int .i64 a] w fun e w' => e = .returned (str (txtI (fc a))) ∧ Below w.heap.size w w' := by
  have hb := fc_bd a
  by_cases h : fc a < 0
  · obtain ⟨n, hn⟩ : ∃ n : Nat, (fc a) = -(n : Int) := ⟨(fc a).natAbs, by omega⟩
    have hn1 : n ≤ 1000000000 := by omega
    have hfn : Shut (fc a = -(n : Int)) := hn
    have h0 : (-(n : Int) < 0) := by omega
    have hpos : 0 < n := by omega
    have e : txtI (fc a) = 45 :: txt n := by unfold txtI; rw [if_pos h, hn]; simp
    rw [e]
    clear e h hb
    have l1 := txt_len n
    have l2 : ¬ (9223372036854775807 < 1 + (txt n).length) := by omega
    go_enter Tryd.func7, Tryd.ntmps7
    go_wp2_with (first
      | (go_at_call 17; refine (sFixClamp_any _ _).mono ?_; rintro e w1 ⟨rfl, rfl⟩)
      | (go_at_call 7; refine (sFixText_pos n _ hn1).mono ?_; rintro e w1 ⟨rfl, hb1⟩))
    go_ret
    exact ⟨(show Ending.returned (.string (⟨[45].toArray⟩ ++ ⟨(txt n).toArray⟩)) = _ by rw [str_add]; rfl), hb1⟩
  · obtain ⟨n, hn⟩ : ∃ n : Nat, fc a = (n : Int) := ⟨(fc a).toNat, by omega⟩
    have hn1 : n ≤ 1000000000 := by omega
    have e : txtI (fc a) = txt n := by unfold txtI; rw [if_neg h, hn]; simp
    rw [e]
    clear e
    have h0 : ¬ ((n : Int) < 0) := by omega
    obtain ⟨d, hd⟩ : ∃ d : Nat, n / 256 = d := ⟨_, rfl⟩
    obtain ⟨m, hm⟩ : ∃ m : Nat, n % 256 = m := ⟨_, rfl⟩
    have hq : (n : Int) / 256 = (d : Int) := by omega
    have hr : (n : Int) % 256 = (m : Int) := by omega
    have hD : Shut (n / 256 = d ∧ n % 256 = m) := ⟨hd, hm⟩
    have hd1 : d ≤ 1000000000 := by omega
    have hm1 : m < 1000 := by omega
    clear hd hm h hb
    have l1 := dec_len d
    have l2 : (pad3 m).length = 3 := rfl
    have l3 : ¬ (9223372036854775807 < (decDigits d).length + 1) := by omega
    have l4 : ¬ (9223372036854775807 < (decDigits d).length + 1 + 3) := by omega
    go_enter Tryd.func7, Tryd.ntmps7
    go_wp2_with (first
      | (go_at_call 17; refine (sFixClamp_any _ _).mono ?_; rintro e w1 ⟨rfl, rfl⟩)
      | (go_at_call 18; refine (l1Dec_any d (by omega) _).mono ?_; rintro e w1 ⟨rfl, hb1⟩)
      | (go_at_call 19; refine (l1Pad_any m _ hm1).mono ?_; rintro e w2 ⟨rfl, hb2⟩))
    go_ret
    exact ⟨(show Ending.returned (.string (⟨(decDigits d).toArray⟩ ++ ⟨[46].toArray⟩ ++ ⟨(pad3 m).toArray⟩)) = _ by rw [str3, ← hD.out.1, ← hD.out.2]; rfl), hb1.trans (hb2.mono hb1.size)⟩
set_option maxHeartbeats 1000000 in
theorem text_any (c : Int) (w : World) (hc : -1000000000 ≤ c ∧ c ≤ 1000000000) (ht : Tab w) :
    Calls Tryd.prog 14 #[.int .i64 c] w fun e w' => e = .returned (str (txtI c)) ∧ Below w.heap.size w w' := by
  obtain ⟨n, hn⟩ : ∃ n : Nat, c.natAbs = n := ⟨_, rfl⟩
  have hn1 : n ≤ 1000000000 := by omega
  obtain ⟨d, hd⟩ : ∃ d : Nat, n / 256 = d := ⟨_, rfl⟩
  obtain ⟨m, hm⟩ : ∃ m : Nat, n % 256 = m := ⟨_, rfl⟩
  have hq : (n : Int) / 256 = (d : Int) := by omega
  have hr : (n : Int) % 256 = (m : Int) := by omega
  have hD : Shut (n / 256 = d ∧ n % 256 = m) := ⟨hd, hm⟩
  have hd1 : d ≤ 1000000000 := by omega
  have hm1 : m < 1000 := by omega
  clear hd hm
  have l1 := dec_len d
  have l2 : (pad3 m).length = 3 := rfl
  have l3 : ¬ (9223372036854775807 < (decDigits d).length + 1) := by omega
  have l4 : ¬ (9223372036854775807 < (decDigits d).length + 1 + 3) := by omega
  have e1000 := dec1000 hm1
  by_cases h : c < 0
  · obtain rfl : c = -(n : Int) := by omega
    have e : txtI (-(n : Int)) = 45 :: txt n := by unfold txtI; rw [if_pos h]; simp
    rw [e]
    clear e hn
    go_enter Tryd.func14, Tryd.ntmps14
    go_wp2_with (first
      | (go_at_call 26; refine (format_1000 m _ hm1 ht).mono ?_; rintro e w1 ⟨rfl, hb1⟩; have ht1 := ht.below hb1)
      | (go_at_call 26; refine (format_any d _ (by omega) ht1).mono ?_; rintro e w2 ⟨rfl, hb2⟩))
    go_ret
    exact ⟨(show Ending.returned (.string (⟨[45].toArray⟩ ++ ⟨(decDigits d).toArray⟩ ++ ⟨[46].toArray⟩ ++ (⟨(49 :: pad3 m).toArray⟩ : ByteArray).extract 1 4)) = _ by rw [ext1, str_add, str_add, str_add, ← hD.out.1, ← hD.out.2]; rfl), hb1.trans (hb2.mono hb1.size)⟩
  · obtain rfl : c = (n : Int) := by omega
    have e : txtI (n : Int) = txt n := by unfold txtI; rw [if_neg h]; simp
    rw [e]
    clear e hn
    go_enter Tryd.func14, Tryd.ntmps14
    go_wp2_with (first
      | (go_at_call 26; refine (format_1000 m _ hm1 ht).mono ?_; rintro e w1 ⟨rfl, hb1⟩; have ht1 := ht.below hb1)
      | (go_at_call 26; refine (format_any d _ (by omega) ht1).mono ?_; rintro e w2 ⟨rfl, hb2⟩))
    go_ret
    exact ⟨(show Ending.returned (.string (⟨[].toArray⟩ ++ ⟨(decDigits d).toArray⟩ ++ ⟨[46].toArray⟩ ++ (⟨(49 :: pad3 m).toArray⟩ : ByteArray).extract 1 4)) = _ by rw [ext1, str_add, str_add, str_add, ← hD.out.1, ← hD.out.2]; rfl), hb1.trans (hb2.mono hb1.size)⟩
theorem fixText_any (a : Int) (w : World) (ht : Tab w) :
    Calls Tryd.prog 5 #[.int .i64 a] w fun e w' => e = .returned (str (txtI (fc a))) ∧ Below w.heap.size w w' := by
  go_enter Tryd.func5, Tryd.ntmps5
  go_wp2_with (first
    | (go_at_call 13; refine (fixOf_any _ _).mono ?_; rintro e w1 ⟨rfl, rfl⟩)
    | (go_at_call 14; refine (text_any _ _ (fc_bd a) ht).mono ?_; rintro e w2 ⟨rfl, hb2⟩))
  go_ret
  exact ⟨rfl, hb2⟩
end Go.Proofs.YteoegjginncffaaDoor
