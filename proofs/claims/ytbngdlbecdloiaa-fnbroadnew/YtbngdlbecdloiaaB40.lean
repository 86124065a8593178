/- What meets a box, both sides, as one list of numbers; a box put, then gone, in mathematics. All that meet, two by two, whatever the boxes: both sides. -/
import Derived.Test.YtbngdlbecdloiaaBrAq
import Derived.Test.YtbngdlbecdloiaaB21
import Derived.Test.YtbngdlbecdloiaaB38
import Derived.Test.YtbngdlbecdloiaaBrPs
import Derived.Deep.RegionHeld3
import Derived.Deep.DeepCutAuto
set_option maxHeartbeats 16000000
set_option maxRecDepth 20000
namespace Go.Proofs.Ytbngdlbecdloiaa
open Go.RowKit
set_option linter.unusedVariables false
set_option linter.unusedSimpArgs false
theorem askL_len (n : Nat) (U : Nat → Int) (a b c d : Int) : (askL n U a b c d).length ≤ n := by
  unfold askL
  cases (broadB n U && bokB a b c d) with
  | false => exact Nat.zero_le _
  | true => show (List.map _ _).length ≤ n; rw [List.length_map]; exact filt_len _ _
theorem ask_i (ai : Option Addr) (n ci : Nat) (U : Nat → Int) (a b c d : Int) (N : Nat) (R : Nat → Int) (w : World) (h : Flat w ai (n * 5) U) (hn : n ≤ 1048576) (hN : (askL n U a b c d).length = N) (hR : R = ofL (askL n U a b c d)) :
    Calls Try.prog 17 #[.agg #[.slice ai n ci], b4 a b c d] w fun e w' => ∃ a' c', e = .returned (.slice a' N c') ∧ OutL w w' 3 1 a' N c' R := by
  unfold askL at hN hR
  cases hk : (broadB n U && bokB a b c d) with
  | false =>
    rw [hk] at hN hR
    subst hN hR
    exact iAsk_f ai n ci U a b c d 0 w h hn hk
  | true =>
    rw [hk] at hN hR
    rw [Bool.and_eq_true] at hk
    subst hR
    refine (iAsk_t ai n ci U a b c d N w h hn hk.1 hk.2).mono ?_
    rintro e w' ⟨a', N', c', zs, rfl, hL, rfl, hb⟩
    have hN' : N' = N := by rw [← hN]; exact hL.1.symm
    subst hN'
    exact ⟨a', c', rfl, ⟨hb, hL.own⟩⟩
theorem ask_s (ai : Option Addr) (n ci : Nat) (U : Nat → Int) (a b c d : Int) (N : Nat) (R : Nat → Int) (w : World) (h : Flat w ai (n * 5) U) (hn : n ≤ 1048576) (hN : (askL n U a b c d).length = N) (hR : R = ofL (askL n U a b c d)) :
    Calls Try.prog 27 #[.agg #[.slice ai n ci], b4 a b c d] w fun e w' => ∃ a' c', e = .returned (.slice a' N c') ∧ OutL w w' 3 1 a' N c' R := by
  unfold askL at hN hR
  cases hk : (broadB n U && bokB a b c d) with
  | false =>
    rw [hk] at hN hR
    subst hN hR
    exact sAsk_f ai n ci U a b c d 0 w h hn hk
  | true =>
    rw [hk] at hN hR
    rw [Bool.and_eq_true] at hk
    subst hR
    refine (sAsk_t ai n ci U a b c d N w h hn hk.1 hk.2).mono ?_
    rintro e w' ⟨a', N', c', zs, rfl, hL, rfl, hb⟩
    have hN' : N' = N := by rw [← hN]; exact hL.1.symm
    subst hN'
    exact ⟨a', c', rfl, ⟨hb, hL.own⟩⟩
theorem ofL_has {L : List Int} {v : Int} : (∃ q, q < L.length ∧ ofL L q = v) ↔ v ∈ L := by
  have gd : ∀ {q : Nat} (hq : q < L.length), L.getD q 0 = L[q] := fun {q} hq => by rw [List.getD_eq_getElem?_getD, List.getElem?_eq_getElem hq]; rfl
  unfold ofL
  constructor
  · rintro ⟨q, hq, e⟩; rw [← e, gd hq]; exact List.getElem_mem hq
  · intro h; obtain ⟨q, hq, e⟩ := List.getElem_of_mem h; exact ⟨q, hq, by rw [gd hq]; exact e⟩
theorem mem_ask {n : Nat} {U : Nat → Int} {a b c d v : Int} (h1 : broadB n U = true) (h2 : bokB a b c d = true) : v ∈ askL n U a b c d ↔ ∃ i, i < n ∧ Mt U a b c d i = true ∧ U (i * 5) = v := by
  unfold askL
  rw [h1, h2]
  show v ∈ List.map _ _ ↔ _
  simp only [List.mem_map, List.mem_filter, List.mem_range]
  constructor
  · rintro ⟨i, ⟨h3, h4⟩, h5⟩; exact ⟨i, h3, h4, h5⟩
  · rintro ⟨i, h3, h4, h5⟩; exact ⟨i, ⟨h3, h4⟩, h5⟩
theorem not_ask {n : Nat} {U : Nat → Int} {a b c d v : Int} (h : ∀ i, i < n → U (i * 5) ≠ v) : v ∉ askL n U a b c d := by
  unfold askL
  cases (broadB n U && bokB a b c d) with
  | false => intro q; cases q
  | true =>
    show v ∉ List.map _ _
    simp only [List.mem_map, List.mem_filter, List.mem_range]
    rintro ⟨i, ⟨h3, h4⟩, h5⟩
    exact h i h3 h5
theorem item_box {X : Nat → Int} (h : itemB X = true) : bokB (X 1) (X 2) (X 3) (X 4) = true := by unfold itemB at h; rw [Bool.and_eq_true] at h; exact h.2
theorem bok_le {a b c d : Int} (h : bokB a b c d = true) : leB a b c d = true := by unfold bokB at h; rw [Bool.and_eq_true, Bool.and_eq_true] at h; exact h.2.2
/-- what is so behind a put that went well -/
structure Pt (n N k : Nat) (X R : Nat → Int) : Prop where
  it : itemB X = true
  lt : k < N
  row : ∀ j, j < 5 → R (k * 5 + j) = X j
  ok : broadB N R = true
  ge : n ≤ N
  isat : IsAt N R (X 0) k
theorem pt_of {n k N : Nat} {U X R : Nat → Int} (h : PutIs n U X k N R true) (hk : IsAt n U (X 0) k) (hb : broadB n U = true) : Pt n N k X R := by
  have ok := putIs_ok h hk hb
  have hkn := hk.le
  rcases h with ⟨_, _, h1⟩ | ⟨_, _, _, h1, _⟩ | ⟨_, hi, ht, rfl, _, rfl⟩ | ⟨_, _, _, _, _, h1, _⟩ | ⟨_, hi, ht, hn, rfl, _, rfl⟩
  · cases h1
  · cases h1
  · have ht' := there_t ht
    exact ⟨hi, ht'.1, fun j hj => insU_at hj, ok, Nat.le_refl _, ⟨hk.le, fun j hj => by rw [insU_lo0 hj]; exact hk.low j hj, fun _ => by rw [insU_at0]; omega⟩⟩
  · cases h1
  · exact ⟨hi, by omega, fun j hj => insU_at hj, ok, by omega, ⟨by omega, fun j hj => by rw [insU_lo0 hj]; exact hk.low j hj, fun _ => by rw [insU_at0]; omega⟩⟩
theorem Pt.r0 {n N k : Nat} {X R : Nat → Int} (h : Pt n N k X R) : R (k * 5) = X 0 := h.row 0 (by omega)
theorem Pt.there {n N k : Nat} {X R : Nat → Int} (h : Pt n N k X R) : thereB N R (X 0) k = true := by unfold thereB; simp [h.lt, h.r0]
/-- put again it is as it was -/
theorem Pt.again {n N k : Nat} {X R : Nat → Int} (h : Pt n N k X R) : PutIs N R X k N (insU k R X (k + 1)) true := .inr (.inr (.inl ⟨h.ok, h.it, h.there, rfl, rfl, rfl⟩))
theorem Pt.same {n N k : Nat} {X R : Nat → Int} (h : Pt n N k X R) : ∀ q, q < N * 5 → insU k R X (k + 1) q = R q := by
  intro q _
  have e : q / 5 * 5 + q % 5 = q := by omega
  have hm : q % 5 < 5 := by omega
  rcases Nat.lt_trichotomy (q / 5) k with l | l | l
  · rw [← e, insU_lo l hm]
  · rw [← e, l, insU_at hm, h.row _ hm]
  · rw [← e, insU_hi l hm]; congr 2; omega
theorem Pt.gone {n N k : Nat} {X R : Nat → Int} (h : Pt n N k X R) {M : Nat} (hM : M + 1 = N) : GoIs N R (X 0) k M (cat (k * 5) R (fun q => R (q + (k + 1) * 5))) true := .inr (.inr ⟨h.ok, h.there, hM, rfl, rfl⟩)
theorem Pt.has {n N k : Nat} {X R : Nat → Int} (h : Pt n N k X R) : X 0 ∈ askL N R (X 1) (X 2) (X 3) (X 4) := by
  have hb := item_box h.it
  refine (mem_ask h.ok hb).2 ⟨k, h.lt, ?_, h.r0⟩
  unfold Mt
  rw [h.row 1 (by omega), h.row 2 (by omega), h.row 3 (by omega), h.row 4 (by omega), bok_le hb]
  rfl
theorem gone_ids {N k : Nat} {R : Nat → Int} {v : Int} (ok : broadB N R = true) (hk : k < N) (hv : R (k * 5) = v) {M : Nat} (hM : M + 1 = N) : ∀ i, i < M → cat (k * 5) R (fun q => R (q + (k + 1) * 5)) (i * 5) ≠ v := by
  intro i hi
  unfold cat
  by_cases l : i * 5 < k * 5
  · rw [if_pos l]
    have := broad_asc ok (show i < k by omega) hk
    omega
  · rw [if_neg l]
    show R (i * 5 - k * 5 + (k + 1) * 5) ≠ v
    rw [show i * 5 - k * 5 + (k + 1) * 5 = (i + 1) * 5 by omega]
    have := broad_asc ok (show k < i + 1 by omega) (show i + 1 < N by omega)
    omega
theorem Pt.hasnt {n N k : Nat} {X R : Nat → Int} (h : Pt n N k X R) {M : Nat} (hM : M + 1 = N) (a b c d : Int) : X 0 ∉ askL M (cat (k * 5) R (fun q => R (q + (k + 1) * 5))) a b c d := not_ask (gone_ids h.ok h.lt h.r0 hM)
theorem put_no {n k N : Nat} {U X R : Nat → Int} (h : PutIs n U X k N R false) (hb : broadB n U = true) : N = n ∧ R = U := by
  rcases h with ⟨h1, _⟩ | ⟨_, _, h1, _, h2⟩ | ⟨_, _, _, _, h1, _⟩ | ⟨_, _, _, _, h1, _, h2⟩ | ⟨_, _, _, _, _, h1, _⟩
  · rw [hb] at h1; cases h1
  · exact ⟨h1, h2⟩
  · cases h1
  · exact ⟨h1, h2⟩
  · cases h1
end Go.Proofs.Ytbngdlbecdloiaa
namespace Go.Proofs.Ytbngdlbecdloiaa
open Go.RowKit
set_option linter.unusedVariables false
set_option linter.unusedSimpArgs false
def bpT (n : Nat) (U : Nat → Int) : List Int := bif broadB n U then bpV U (bpL n U n) else []
def bpN (n : Nat) (U : Nat → Int) : Nat := bif broadB n U then (bpL n U n).length else 0
theorem bpN_le (n : Nat) (U : Nat → Int) : bpN n U ≤ 576 := by
  unfold bpN
  cases h : broadB n U with
  | false => exact Nat.zero_le _
  | true =>
    have h1 := bpL_len n U n
    have h2 := broadB_n h
    have := Nat.mul_le_mul h2 h2
    show (bpL n U n).length ≤ 576
    omega
set_option maxRecDepth 20000 in
set_option maxHeartbeats 1000000 in
theorem pairs_i (ai : Option Addr) (n ci : Nat) (U : Nat → Int) (N : Nat) (R : Nat → Int) (w : World) (h : Flat w ai (n * 5) U) (hn : n ≤ 1048576) (hN : bpN n U = N) (hR : R = ofL (bpT n U)) :
    Calls Try.prog 20 #[.agg #[.slice ai n ci]] w fun e w' => ∃ a' c', e = .returned (.slice a' N c') ∧ OutL w w' 48 2 a' N c' R := by
  have hset := cset_map
  have fl : ∀ w', Below w.heap.size w w' → Flat w' ai (n * 5) U := fun w' hb => h.below hb
  subst hR
  unfold bpN at hN
  unfold bpT
  cases k1 : broadB n U with
  | true =>
    rw [k1] at hN
    subst hN
    exact (iBp_t ai n ci U w h hn k1).mono fun e w' h => h
  | false =>
    rw [k1] at hN
    subst hN
    have hb1 : Below w.heap.size w (w.alloc (.cells #[.slice ai n ci] 25)) := (Below.refl _ _).alloc (Nat.le_refl _) _
    go_enter Try.func20, Try.ntmps20
    go_wp2_with (go_at_call 13; refine (broadOk_q _ _ _ U _ _ (fl _ (by first | assumption | exact bel_a)) hn k1).mono ?_; rintro e w2 ⟨rfl, hb2⟩)
    go_ret
    exact ⟨none, 0, rfl, hb1.trans (hb2.mono hb1.size), OwnL.nil _ _ _ _ _⟩
set_option maxRecDepth 20000 in
set_option maxHeartbeats 1000000 in
theorem pairs_s (ai : Option Addr) (n ci : Nat) (U : Nat → Int) (N : Nat) (R : Nat → Int) (w : World) (h : Flat w ai (n * 5) U) (hn : n ≤ 1048576) (hN : bpN n U = N) (hR : R = ofL (bpT n U)) :
    Calls Try.prog 23 #[.agg #[.slice ai n ci]] w fun e w' => ∃ a' c', e = .returned (.slice a' N c') ∧ OutL w w' 48 2 a' N c' R := by
  have hset := cset_map
  have fl : ∀ w', Below w.heap.size w w' → Flat w' ai (n * 5) U := fun w' hb => h.below hb
  subst hR
  unfold bpN at hN
  unfold bpT
  have hb1 : Below w.heap.size w (w.alloc (.cells #[.slice ai n ci] 25)) := (Below.refl _ _).alloc (Nat.le_refl _) _
  have y0 : (w.alloc (.cells #[.slice ai n ci] 25)).cell? ⟨w.heap.size, 0, none⟩ = some (.slice ai n ci) := by go_simp
  cases k1 : broadB n U with
  | true =>
    rw [k1] at hN
    subst hN
    go_enter Try.func23, Try.ntmps23
    go_wp2_with (first
      | (have _ := hb2; go_at_call 50; refine (l4Pairs_any ai n ci U _ (fl _ (hb1.trans (hb2.mono hb1.size))) (broadB_n k1)).mono ?_; rintro e w3 ⟨a3, c3, rfl, hO3⟩)
      | (go_at_call 14; refine (sBroadOk_q _ _ _ U _ _ (fl _ (by first | assumption | exact bel_a)) hn k1).mono ?_; rintro e w2 ⟨rfl, hb2⟩; have y1 := keepc hb2 y0))
    go_ret
    exact ⟨_, _, rfl, (hb1.trans (hb2.mono hb1.size)).trans (hO3.bel.mono (hb1.trans (hb2.mono hb1.size)).size), hO3.own.base (hb1.trans (hb2.mono hb1.size)).size⟩
  | false =>
    rw [k1] at hN
    subst hN
    go_enter Try.func23, Try.ntmps23
    go_wp2_with (go_at_call 14; refine (sBroadOk_q _ _ _ U _ _ (fl _ (by first | assumption | exact bel_a)) hn k1).mono ?_; rintro e w2 ⟨rfl, hb2⟩)
    go_ret
    have hb12 := hb1.trans (hb2.mono hb1.size)
    exact ⟨_, _, rfl, hb12.trans (((Below.refl _ _).alloc (Nat.le_refl _) _).mono hb12.size), (LsV.new w2 48 2).own.base hb12.size⟩
end Go.Proofs.Ytbngdlbecdloiaa
