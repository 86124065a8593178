/- Texts of numbers, read by the specification: a number's own text; the law. -/
import Derived.Test.YteoegjginncffaaDoorFxQT
namespace Go.Proofs.YteoegjginncffaaDoor
open Go.RowKit Go.Lib
set_option linter.unusedVariables false
set_option linter.unusedSimpArgs false
theorem wfi {n : Int} (h : -9223372036854775808 ≤ n ∧ n ≤ 9223372036854775807) : (Lit.int .i64 n).wf = true := by
  rw [← w64_in n h]
  exact wrap64_wf n
theorem num_yes' {d : Nat} (s : ByteArray) (h : d ≤ 3906250) (w : World) (e : s = ⟨(decDigits d).toArray⟩) : Calls Tryd.prog 21 #[.string s] w fun e w' => e = .returned (.int .i64 d) ∧ w' = w := by
  subst e
  exact num_yes h w
theorem three_yes' {m : Nat} (s : ByteArray) (h : m < 1000) (w : World) (e : s = ⟨(pad3 m).toArray⟩) : Calls Tryd.prog 22 #[.string s] w fun e w' => e = .returned (.int .i64 m) ∧ w' = w := by
  subst e
  exact three_yes h w
set_option maxHeartbeats 2000000 in
theorem sRead_pos (t : ByteArray) (w : World) (d r L : Nat) (h0 : 0 < t.size) (hneg : ((t[0].toNat : Int) == 45) = false) (hL : L < t.size) (hS : t.size ≤ 1000)
    (hpre : ∀ k (h : k < t.size), k < L → ((t[k].toNat : Int) == 46) = false) (hdot : ((t[L].toNat : Int) == 46) = true)
    (e1 : t.extract 0 L = ⟨(decDigits d).toArray⟩) (e2 : t.extract (L + 1) t.size = ⟨(pad3 r).toArray⟩) (hd : d ≤ 3906250) (hr : r < 256)
    (ht : (txtI (fc ((d : Int) * 256 + (r : Int))) == t.toList) = true) :
    Calls Tryd.prog 10 #[.string t] w fun e w' => e = .returned (.tuple #[.int .i64 ((d : Int) * 256 + (r : Int)), .bool true]) ∧ Below w.heap.size w w' := by
  have h0' : (0 : Int) < (t.size : Int) := by omega
  have se : Shut (t.extract 0 L = ⟨(decDigits d).toArray⟩ ∧ t.extract (L + 1) t.size = ⟨(pad3 r).toArray⟩) := ⟨e1, e2⟩
  clear e1 e2
  go_enter Tryd.func10, Tryd.ntmps10
  go_wp2
  go_loopw [5] (fun i wr => ∃ k : Nat, k ≤ L ∧ i = .int .i64 (k : Int) ∧ w = wr) (fun i _ => t.size - (RowKit.intOf i).toNat)
  case atStart => exact ⟨0, Nat.zero_le _, rfl, rfl⟩
  case round =>
    obtain ⟨k, hk, rfl, rfl⟩ := hrel
    have hlt : k < t.size := by omega
    have hlt' : (k : Int) < (t.size : Int) := by omega
    have hk1 : (k : Int) + 1 ≤ (t.size : Int) := by omega
    by_cases hkL : k < L
    · have hd' := hpre k hlt hkL
      go_wp2
      go_roundw
      case rel => exact ⟨k + 1, by omega, by go_num, by first | exact rfl | trivial⟩
      case measure => simp [RowKit.intOf]; omega
    · obtain rfl : k = L := by omega
      have d0 : ¬ ((d : Int) < 0) := by omega
      have r0 : ¬ ((r : Int) < 0) := by omega
      go_wp2_with (first
        | (go_at_call 21; refine (num_yes' (d := d) _ hd _ se.out.1).mono ?_; rintro e w1 ⟨rfl, rfl⟩)
        | (go_at_call 22; refine (three_yes' (m := r) _ (by omega) _ se.out.2).mono ?_; rintro e w1 ⟨rfl, rfl⟩)
        | (go_at_call 7; refine (sFixText_any _ _ (by first | exact wrap64_wf _ | exact wf_i64w _ | exact wfi (by omega))).mono ?_; rintro e w2 ⟨rfl, hb2⟩))
      go_ret2
      exact ⟨rfl, hb2⟩
set_option maxHeartbeats 2000000 in
theorem sRead_neg (t s : ByteArray) (w : World) (d r L : Nat) (h0 : 0 < t.size) (hneg : ((t[0].toNat : Int) == 45) = true) (hcut : t.extract 1 t.size = s) (hsz : s.size + 1 = t.size) (hL : L < s.size) (hS : t.size ≤ 1000)
    (hpre : ∀ k (h : k < s.size), k < L → ((s[k].toNat : Int) == 46) = false) (hdot : ((s[L].toNat : Int) == 46) = true)
    (e1 : s.extract 0 L = ⟨(decDigits d).toArray⟩) (e2 : s.extract (L + 1) s.size = ⟨(pad3 r).toArray⟩) (hd : d ≤ 3906250) (hr : r < 256)
    (ht : (txtI (fc (-((d : Int) * 256 + (r : Int)))) == t.toList) = true) :
    Calls Tryd.prog 10 #[.string t] w fun e w' => e = .returned (.tuple #[.int .i64 (-((d : Int) * 256 + (r : Int))), .bool true]) ∧ Below w.heap.size w w' := by
  have h0' : (0 : Int) < (t.size : Int) := by omega
  have h01 : (1 : Int) ≤ (t.size : Int) := by omega
  have h02 : (s.size : Int) < (t.size : Int) := by omega
  have se : Shut (s.extract 0 L = ⟨(decDigits d).toArray⟩ ∧ s.extract (L + 1) s.size = ⟨(pad3 r).toArray⟩) := ⟨e1, e2⟩
  clear e1 e2
  go_enter Tryd.func10, Tryd.ntmps10
  go_wp2
  go_loopw [5] (fun i wr => ∃ k : Nat, k ≤ L ∧ i = .int .i64 (k : Int) ∧ w = wr) (fun i _ => s.size - (RowKit.intOf i).toNat)
  case atStart => exact ⟨0, Nat.zero_le _, rfl, rfl⟩
  case round =>
    obtain ⟨k, hk, rfl, rfl⟩ := hrel
    have hlt : k < s.size := by omega
    have hlt' : (k : Int) < (s.size : Int) := by omega
    have hk1 : (k : Int) + 1 ≤ (s.size : Int) := by omega
    by_cases hkL : k < L
    · have hd' := hpre k hlt hkL
      go_wp2
      go_roundw
      case rel => exact ⟨k + 1, by omega, by go_num, by first | exact rfl | trivial⟩
      case measure => simp [RowKit.intOf]; omega
    · obtain rfl : k = L := by omega
      have d0 : ¬ ((d : Int) < 0) := by omega
      have r0 : ¬ ((r : Int) < 0) := by omega
      go_wp2_with (first
        | (go_at_call 21; refine (num_yes' (d := d) _ hd _ se.out.1).mono ?_; rintro e w1 ⟨rfl, rfl⟩)
        | (go_at_call 22; refine (three_yes' (m := r) _ (by omega) _ se.out.2).mono ?_; rintro e w1 ⟨rfl, rfl⟩)
        | (go_at_call 7; refine (sFixText_any _ _ (by first | exact wrap64_wf _ | exact wf_i64w _ | exact wfi (by omega))).mono ?_; rintro e w2 ⟨rfl, hb2⟩))
      go_ret2
      exact ⟨rfl, hb2⟩
theorem txt_fig (n : Nat) (k : Nat) (h : k < (txt n).length) (hk : k < (decDigits (n / 256)).length) : 48 ≤ ((txt n)[k]).toNat ∧ ((txt n)[k]).toNat ≤ 57 := by
  have e : (txt n)[k] = (decDigits (n / 256))[k] := by
    simp only [txt_eq]
    exact List.getElem_append_left hk
  rw [e]
  exact (dec_val (n / 256)).2.1 _ (List.getElem_mem hk)
theorem txt_dot (n : Nat) (h : (decDigits (n / 256)).length < (txt n).length) : (txt n)[(decDigits (n / 256)).length] = 46 := by
  simp [txt_eq]
theorem txt_size (n : Nat) : (txt n).length = (decDigits (n / 256)).length + 4 := by
  rw [txt_eq]
  simp [pad3]
theorem txt_lo (n : Nat) : (⟨(txt n).toArray⟩ : ByteArray).extract 0 (decDigits (n / 256)).length = ⟨(decDigits (n / 256)).toArray⟩ := by
  apply ByteArray.ext
  simp [ByteArray.data_extract, txt_eq]
theorem txt_hi (n : Nat) : (⟨(txt n).toArray⟩ : ByteArray).extract ((decDigits (n / 256)).length + 1) (⟨(txt n).toArray⟩ : ByteArray).size = ⟨(pad3 (n % 256)).toArray⟩ := by
  show (⟨(txt n).toArray⟩ : ByteArray).extract ((decDigits (n / 256)).length + 1) (txt n).length = _
  rw [txt_size]
  apply ByteArray.ext
  simp [ByteArray.data_extract, txt_eq, pad3]
theorem sRead_yes (m : Int) (w : World) (hm : -1000000000 ≤ m ∧ m ≤ 1000000000) :
    Calls Tryd.prog 10 #[str (txtI m)] w fun e w' => e = .returned (.tuple #[.int .i64 m, .bool true]) ∧ Below w.heap.size w w' := by
  obtain ⟨n, hn⟩ : ∃ n : Nat, m.natAbs = n := ⟨_, rfl⟩
  have hz := txt_size n
  have hsh := txt_short (n := n) (by omega)
  have hp : 0 < (decDigits (n / 256)).length := List.length_pos_iff.2 (dec_val (n / 256)).2.2
  have hnum : ((n / 256 : Nat) : Int) * 256 + ((n % 256 : Nat) : Int) = (n : Int) := by omega
  have hpre : ∀ k (h : k < (txt n).length), k < (decDigits (n / 256)).length → ((((txt n)[k]).toNat : Int) == 46) = false := by
    intro k h hk
    have := txt_fig n k h hk
    rw [beq_eq_false_iff_ne]; omega
  have hdot : ((((txt n)[(decDigits (n / 256)).length]'(by omega)).toNat : Int) == 46) = true := by rw [txt_dot]; rfl
  by_cases h : m < 0
  · have e : txtI m = 45 :: txt n := by unfold txtI; rw [if_pos h, hn]
    have em : -(((n / 256 : Nat) : Int) * 256 + ((n % 256 : Nat) : Int)) = m := by omega
    have q := sRead_neg ⟨(45 :: txt n).toArray⟩ ⟨(txt n).toArray⟩ w (n / 256) (n % 256) (decDigits (n / 256)).length (by show 0 < (45 :: txt n).length; simp) rfl
      (by
        show (⟨(45 :: txt n).toArray⟩ : ByteArray).extract 1 (45 :: txt n).length = _
        apply ByteArray.ext
        simp [ByteArray.data_extract]) rfl (by show _ < (txt n).length; omega) (by show (45 :: txt n).length ≤ _; simp only [List.length_cons]; omega)
      hpre hdot (txt_lo n) (txt_hi n) (by omega) (by omega) (by rw [em, fc_id hm.1 hm.2, e, toList_data]; simp)
    rw [em] at q
    rw [e]
    exact q
  · have e : txtI m = txt n := by unfold txtI; rw [if_neg h, ← hn]; congr 1; omega
    have em : ((n / 256 : Nat) : Int) * 256 + ((n % 256 : Nat) : Int) = m := by omega
    have q := sRead_pos ⟨(txt n).toArray⟩ w (n / 256) (n % 256) (decDigits (n / 256)).length (by show 0 < (txt n).length; omega)
      (by
        have := txt_fig n 0 (by omega) hp
        show ((((txt n)[0]).toNat : Int) == 45) = false
        rw [beq_eq_false_iff_ne]; omega)
      (by show _ < (txt n).length; omega) (by show (txt n).length ≤ _; omega)
      hpre hdot (txt_lo n) (txt_hi n) (by omega) (by omega) (by rw [em, fc_id hm.1 hm.2, e, toList_data]; simp)
    rw [em] at q
    rw [e]
    exact q
end Go.Proofs.YteoegjginncffaaDoor
