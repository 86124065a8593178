/- Texts of numbers, read by the program: whatever the text. -/
import Derived.Test.YteoegjginncffaaDoorFxNT
namespace Go.Proofs.YteoegjginncffaaDoor
open Go.RowKit Go.Lib Go.Shelf
set_option linter.unusedVariables false
set_option linter.unusedSimpArgs false
/-- what the packages' variables hold -/
structure Glob (w : World) : Prop where
  tab : Tab w
  mx : ∃ m : Int, w.cell? ⟨1, 0, none⟩ = some (.int .i64 m)
  es : ∃ ev, w.cell? ⟨2, 0, none⟩ = some ev ∧ (ev = .nilIface ∨ ∃ te pe, ev = .iface te pe)
  er : ∃ ev, w.cell? ⟨3, 0, none⟩ = some ev ∧ (ev = .nilIface ∨ ∃ te pe, ev = .iface te pe)
theorem Glob.below {w w' : World} (h : Glob w) (hb : Below w.heap.size w w') : Glob w' := by
  have k : ∀ (g : Nat) v, w.cell? ⟨g, 0, none⟩ = some v → w'.cell? ⟨g, 0, none⟩ = some v := fun g v e => (hb.cell (p := ⟨g, 0, none⟩) (World.block_lt_of_cell? w _ e)).trans e
  obtain ⟨m, hm⟩ := h.mx
  obtain ⟨e1, h1, h1'⟩ := h.es
  obtain ⟨e2, h2, h2'⟩ := h.er
  exact ⟨h.tab.below hb, ⟨m, k _ _ hm⟩, ⟨e1, k _ _ h1, h1'⟩, ⟨e2, k _ _ h2, h2'⟩⟩
theorem drewN_below (w : World) (n : Nat) : Below w.heap.size w (w.drewN n) := ⟨rfl, rfl, rfl, Nat.le_refl _, fun _ _ => rfl⟩
theorem cutp_any (s p : ByteArray) (w : World) :
    Calls Tryd.prog 27 #[.string s, .string p] w fun e w' => e = .returned (.tuple #[.string ⟨(trimPrefix s.data.toList p.data.toList).toArray⟩, .bool (hasPrefix s.data.toList p.data.toList)]) ∧ w' = w := Any.strings_CutPrefix lays103 s p w
theorem cut_any (s p : ByteArray) (w : World) (hs : s.size < 4294967281) (G : Glob w) :
    Calls Tryd.prog 28 #[.string s, .string p] w fun e w' => e = .returned (.tuple #[.string ⟨(cut s.data.toList p.data.toList).1.toArray⟩, .string ⟨(cut s.data.toList p.data.toList).2.1.toArray⟩, .bool (cut s.data.toList p.data.toList).2.2]) ∧ Below w.heap.size w w' := by
  obtain ⟨m, hm⟩ := G.mx
  refine (Any.strings_Cut { lays145 with } s p m w hs hm).mono ?_
  rintro e w' ⟨rfl, n, rfl⟩
  exact ⟨rfl, drewN_below w n⟩
theorem bytesW_below (w : World) (e : TypeId) (s : ByteArray) : Below w.heap.size w (bytesWorld w e s) := Go.Lib.bytesWorld_below w e s
theorem parse_okc (s : ByteArray) (v : Int) (w : World) (hs : s.size ≤ 1048576) (h : parseIntB 32 s.data.toList = .ok v) :
    Calls Tryd.prog 29 #[.string s, .int .i64 10, .int .i64 32] w fun e w' => e = .returned (.tuple #[.int .i64 v, .nilIface]) ∧ Below w.heap.size w w' := by
  refine (Any.strconv_ParseInt_10_at32_ok lays174 s (by omega) v h w).mono ?_
  rintro e w' ⟨rfl, rfl | ⟨t, rfl⟩⟩
  · exact ⟨rfl, Below.refl _ _⟩
  · exact ⟨rfl, bytesW_below w _ t⟩
theorem parse_safe (s : ByteArray) (w : World) (hs : s.size ≤ 1048576) (G : Glob w) :
    Calls Tryd.prog 29 #[.string s, .int .i64 10, .int .i64 32] w fun e w' => ∃ (v : Int) (er : Value), e = .returned (.tuple #[.int .i64 v, er]) ∧ (er = .nilIface ∨ ∃ te pe, er = .iface te pe) ∧ Below w.heap.size w w' := by
  cases h : parseIntB 32 s.data.toList with
  | ok v =>
    refine (parse_okc s v w hs h).mono ?_
    rintro e w' ⟨rfl, hb⟩
    exact ⟨v, _, rfl, .inl rfl, hb⟩
  | «syntax» =>
    obtain ⟨ev, hv, hev⟩ := G.es
    refine (Any.strconv_ParseInt_10_at32_syntax lays174 s (by omega) h ev w hv hev).mono ?_
    rintro e w' ⟨N, rfl, _, _, hb⟩
    exact ⟨0, _, rfl, .inr ⟨_, _, rfl⟩, hb⟩
  | range =>
    obtain ⟨ev, hv, hev⟩ := G.er
    refine (Any.strconv_ParseInt_10_at32_range lays174 s (by omega) h ev w hv hev).mono ?_
    rintro e w' ⟨N, rfl, _, _, hb⟩
    exact ⟨_, _, rfl, .inr ⟨_, _, rfl⟩, hb⟩
theorem cut_len (l p : List UInt8) : (cut l p).1.length ≤ l.length ∧ (cut l p).2.1.length ≤ l.length := by
  unfold cut
  split
  · simp only [List.length_take, List.length_drop]; omega
  · simp
theorem trim_len (l p : List UInt8) : (trimPrefix l p).length ≤ l.length := by
  unfold trimPrefix
  split
  · simp
  · exact Nat.le_refl _
set_option maxHeartbeats 1000000 in
theorem readParts_safe (t : ByteArray) (w : World) (hs : t.size ≤ 1048576) (G : Glob w) :
    Calls Tryd.prog 15 #[.string t] w fun e w' => ∃ (v : Int) (ok : Bool), e = .returned (.tuple #[.int .i64 v, .bool ok]) ∧ Below w.heap.size w w' := by
  obtain ⟨f, hf⟩ : ∃ f : ByteArray, (⟨(trimPrefix t.data.toList [45]).toArray⟩ : ByteArray) = f := ⟨_, rfl⟩
  have hfs : f.size ≤ 1048576 := by
    rw [← hf]
    have := trim_len t.data.toList [45]
    show (trimPrefix t.data.toList [45]).toArray.size ≤ _
    have h2 : t.data.toList.length = t.size := rfl
    simp only [List.size_toArray]
    omega
  obtain ⟨lo, hlo⟩ : ∃ f' : ByteArray, (⟨(cut f.data.toList [46]).1.toArray⟩ : ByteArray) = f' := ⟨_, rfl⟩
  obtain ⟨hi, hhi⟩ : ∃ f' : ByteArray, (⟨(cut f.data.toList [46]).2.1.toArray⟩ : ByteArray) = f' := ⟨_, rfl⟩
  have hcl := cut_len f.data.toList [46]
  have h2 : f.data.toList.length = f.size := rfl
  have hlos : lo.size ≤ 1048576 := by rw [← hlo]; show (cut f.data.toList [46]).1.toArray.size ≤ _; simp only [List.size_toArray]; omega
  have hhis : hi.size ≤ 1048576 := by rw [← hhi]; show (cut f.data.toList [46]).2.1.toArray.size ≤ _; simp only [List.size_toArray]; omega
  clear hcl h2
  go_enter Tryd.func15, Tryd.ntmps15
  go_wp2_with (first
    | (go_at_call 27; refine (cutp_any t ⟨#[45]⟩ _).mono ?_; rintro e w1 ⟨rfl, rfl⟩)
    | (go_at_call 28; refine (cut_any f ⟨#[46]⟩ _ (by omega) G).mono ?_; rintro e w2 ⟨rfl, hb2⟩; have G2 := G.below hb2)
    | (go_at_call 29; refine (parse_safe lo _ hlos G2).mono ?_; rintro e w3 ⟨va, ea, rfl, hea, hb3⟩; have G3 := G2.below hb3; fail)
    | (go_at_call 29; refine (parse_safe hi _ hhis G3).mono ?_; rintro e w4 ⟨vb, eb, rfl, heb, hb4⟩; rcases heb with rfl | ⟨teb, peb, rfl⟩))
  refine (parse_safe lo _ hlos G2).mono ?_
  rintro e w3 ⟨va, ea, rfl, hea, hb3⟩
  have G3 := G2.below hb3
  rcases hea with rfl | ⟨tea, pea, rfl⟩
  · go_wp2_with fail
    refine (parse_safe hi _ hhis G3).mono ?_
    rintro e w4 ⟨vb, eb, rfl, heb, hb4⟩
    have hbb : Below w1.heap.size w1 w4 := (hb2.trans (hb3.mono hb2.size)).trans (hb4.mono (hb2.trans (hb3.mono hb2.size)).size)
    rcases heb with rfl | ⟨teb, peb, rfl⟩
    · go_wp2
      all_goals
        go_ret2
        exact ⟨_, _, rfl, hbb⟩
    · go_wp2
      go_ret2
      exact ⟨_, _, rfl, hbb⟩
  · go_wp2
    go_ret2
    exact ⟨_, _, rfl, hb2.trans (hb3.mono hb2.size)⟩
set_option maxHeartbeats 1000000 in
theorem readParts_ok (t : ByteArray) (w : World) (hs : t.size ≤ 1048576) (G : Glob w) (va vb : Int)
    (h1 : parseIntB 32 (cut (trimPrefix t.data.toList [45]) [46]).1 = .ok va) (h2 : parseIntB 32 (cut (trimPrefix t.data.toList [45]) [46]).2.1 = .ok vb) :
    Calls Tryd.prog 15 #[.string t] w fun e w' => e = .returned (.tuple #[.int .i64 (if hasPrefix t.data.toList [45] then wrap64 (-wrap64 (wrap64 (va * 256) + vb)) else wrap64 (wrap64 (va * 256) + vb)), .bool true]) ∧ Below w.heap.size w w' := by
  obtain ⟨f, hf⟩ : ∃ f : ByteArray, (⟨(trimPrefix t.data.toList [45]).toArray⟩ : ByteArray) = f := ⟨_, rfl⟩
  have hfl : trimPrefix t.data.toList [45] = f.data.toList := by rw [← hf]
  rw [hfl] at h1 h2
  have hfs : f.size ≤ 1048576 := by
    have := trim_len t.data.toList [45]
    rw [hfl] at this
    exact Nat.le_trans this hs
  clear hfl
  obtain ⟨lo, hlo⟩ : ∃ f' : ByteArray, (⟨(cut f.data.toList [46]).1.toArray⟩ : ByteArray) = f' := ⟨_, rfl⟩
  obtain ⟨hi, hhi⟩ : ∃ f' : ByteArray, (⟨(cut f.data.toList [46]).2.1.toArray⟩ : ByteArray) = f' := ⟨_, rfl⟩
  have hcl := cut_len f.data.toList [46]
  have h3 : f.data.toList.length = f.size := rfl
  have hlos : lo.size ≤ 1048576 := by rw [← hlo]; show (cut f.data.toList [46]).1.toArray.size ≤ _; simp only [List.size_toArray]; omega
  have hhis : hi.size ≤ 1048576 := by rw [← hhi]; show (cut f.data.toList [46]).2.1.toArray.size ≤ _; simp only [List.size_toArray]; omega
  have p1 : parseIntB 32 lo.data.toList = .ok va := by rw [← hlo]; exact h1
  have p2 : parseIntB 32 hi.data.toList = .ok vb := by rw [← hhi]; exact h2
  clear hcl h3 h1 h2
  go_enter Tryd.func15, Tryd.ntmps15
  go_wp2_with (first
    | (go_at_call 27; refine (cutp_any t ⟨#[45]⟩ _).mono ?_; rintro e w1 ⟨rfl, rfl⟩)
    | (go_at_call 28; refine (cut_any f ⟨#[46]⟩ _ (by omega) G).mono ?_; rintro e w2 ⟨rfl, hb2⟩; have G2 := G.below hb2)
    | (go_at_call 29; refine (parse_okc lo va _ hlos p1).mono ?_; rintro e w3 ⟨rfl, hb3⟩; clear p1)
    | (go_at_call 29; refine (parse_okc hi vb _ hhis p2).mono ?_; rintro e w4 ⟨rfl, hb4⟩; have hbb := (hb2.trans (hb3.mono hb2.size)).trans (hb4.mono (hb2.trans (hb3.mono hb2.size)).size)))
  all_goals
    go_ret2
    exact ⟨rfl, hbb⟩
set_option maxHeartbeats 1000000 in
theorem read_no (t : ByteArray) (w : World) (hs : t.size ≤ 1048576) (G : Glob w) (hno : NoTxt t) :
    Calls Tryd.prog 6 #[.string t] w fun e w' => e = .returned (.tuple #[.int .i64 0, .bool false]) ∧ Below w.heap.size w w' := by
  go_enter Tryd.func6, Tryd.ntmps6
  go_wp2_with fail
  refine (readParts_safe t _ hs G).mono ?_
  rintro e w1 ⟨v, ok, rfl, hb1⟩
  have G1 := G.below hb1
  have h9 : -1000000000 ≤ clampZ 1000000000 v ∧ clampZ 1000000000 v ≤ 1000000000 := fc_bd v
  have hno' : (txtI (clampZ 1000000000 v) == t.toList) = false := hno v
  cases ok with
  | false =>
    go_wp2
    go_ret2
    exact ⟨rfl, hb1⟩
  | true =>
    go_wp2_with (first
      | (go_at_call 16; refine (held_any v 1000000000 _ (by decide) (by decide)).mono ?_; rintro e w2 ⟨rfl, rfl⟩)
      | (go_at_call 14; refine (text_any _ _ h9 G1.tab).mono ?_; rintro e w3 ⟨rfl, hb3⟩))
    go_ret2
    exact ⟨rfl, hb1.trans (hb3.mono hb1.size)⟩
theorem w64_in (n : Int) (h : -9223372036854775808 ≤ n ∧ n ≤ 9223372036854775807) : wrap64 n = n := by unfold wrap64; omega
theorem txt_eq (n : Nat) : txt n = decDigits (n / 256) ++ 46 :: pad3 (n % 256) := by
  unfold txt
  simp
theorem txt_head (n : Nat) : hasPrefix (txt n) [45] = false ∧ trimPrefix (txt n) [45] = txt n := by
  obtain ⟨h1, h2, h3⟩ := dec_val (n / 256)
  have e : hasPrefix (txt n) [45] = false := by
    rw [txt_eq]
    match hd : decDigits (n / 256), h3 with
    | c :: r, _ =>
      have hc := h2 c (by rw [hd]; exact List.mem_cons_self ..)
      have hne : (45 == c) = false := by rw [beq_eq_false_iff_ne]; rintro rfl; revert hc; decide
      simp [hasPrefix, List.isPrefixOf, hne]
  refine ⟨e, ?_⟩
  unfold trimPrefix
  rw [if_neg (by rw [e]; simp)]
theorem parts_txt (m : Int) : hasPrefix (txtI m) [45] = decide (m < 0) ∧ trimPrefix (txtI m) [45] = txt m.natAbs := by
  unfold txtI
  split
  · rename_i h
    simp [hasPrefix, trimPrefix, List.isPrefixOf, h]
  · rename_i h
    have e : m.toNat = m.natAbs := by omega
    rw [e]
    obtain ⟨h1, h2⟩ := txt_head m.natAbs
    rw [h1, h2]
    simp [h]
theorem dec_fig (k : Nat) : ∀ d : Nat, d < 10 ^ (k + 1) → (decDigits d).length ≤ k + 1 := by
  induction k with
  | zero => intro d h; rw [dec1 (by simpa using h)]; simp
  | succ k ih =>
    intro d h
    by_cases h1 : d < 10
    · rw [dec1 h1]; simp
    · rw [decS h1, List.length_append]
      have := ih (d / 10) (by rw [Nat.pow_succ] at h; omega)
      simp only [List.length_cons, List.length_nil]
      omega
theorem txt_short {n : Nat} (h : n ≤ 1000000000) : (decDigits (n / 256)).length ≤ 7 ∧ (txt n).length ≤ 11 := by
  have h1 := dec_fig 6 (n / 256) (by omega)
  refine ⟨h1, ?_⟩
  rw [txt_eq]
  simp only [List.length_append, List.length_cons, pad3, List.length_nil]
  omega
theorem txtI_short {m : Int} (h : -1000000000 ≤ m ∧ m ≤ 1000000000) : (txtI m).length ≤ 12 := by
  unfold txtI
  split
  · have := (txt_short (n := m.natAbs) (by omega)).2
    simp only [List.length_cons]; omega
  · have := (txt_short (n := m.toNat) (by omega)).2
    omega
theorem readParts_yes (m : Int) (w : World) (hm : -1000000000 ≤ m ∧ m ≤ 1000000000) (G : Glob w) :
    Calls Tryd.prog 15 #[str (txtI m)] w fun e w' => e = .returned (.tuple #[.int .i64 m, .bool true]) ∧ Below w.heap.size w w' := by
  obtain ⟨h1, h2⟩ := parts_txt m
  obtain ⟨d1, d2, d3⟩ := dec_val (m.natAbs / 256)
  obtain ⟨q1, q2⟩ := pad_val (m := m.natAbs % 256) (by omega)
  have hc : cut (trimPrefix (txtI m) [45]) [46] = (decDigits (m.natAbs / 256), pad3 (m.natAbs % 256), true) := by rw [h2, txt_eq]; exact cut_dot _ _ d2
  have p1 := parse_ok d2 d3 (by rw [d1]; omega)
  have p2 := parse_ok q2 (by simp [pad3]) (by rw [q1]; omega)
  rw [d1] at p1
  rw [q1] at p2
  have hl : (txtI m).length ≤ 1048576 := Nat.le_trans (txtI_short hm) (by decide)
  refine (readParts_ok ⟨(txtI m).toArray⟩ w (by show (txtI m).toArray.size ≤ _; simpa using hl) G (m.natAbs / 256 : Nat) (m.natAbs % 256 : Nat) (by show parseIntB 32 (cut (trimPrefix (txtI m) [45]) [46]).1 = _; rw [hc]; exact p1) (by show parseIntB 32 (cut (trimPrefix (txtI m) [45]) [46]).2.1 = _; rw [hc]; exact p2)).mono ?_
  rintro e w' ⟨rfl, hb⟩
  refine ⟨?_, hb⟩
  show Ending.returned (.tuple #[.int .i64 (if hasPrefix (txtI m) [45] = true then _ else _), _]) = _
  rw [h1]
  have e0 : wrap64 (((m.natAbs / 256 : Nat) : Int) * 256) = ((m.natAbs / 256 : Nat) : Int) * 256 := w64_in _ (by omega)
  have e1 : wrap64 (((m.natAbs / 256 : Nat) : Int) * 256 + ((m.natAbs % 256 : Nat) : Int)) = (m.natAbs : Int) := by rw [w64_in _ (by omega)]; omega
  have e2 : wrap64 (-(m.natAbs : Int)) = -(m.natAbs : Int) := w64_in _ (by omega)
  rw [e0, e1, e2]
  by_cases h : m < 0
  · simp only [h, decide_true, if_true]
    have : -(m.natAbs : Int) = m := by omega
    rw [this]
  · simp only [h, decide_false]
    have : (m.natAbs : Int) = m := by omega
    simp [this]
theorem readParts_yes' (m : Int) (t : ByteArray) (w : World) (hm : -1000000000 ≤ m ∧ m ≤ 1000000000) (G : Glob w) (ht : (⟨(txtI m).toArray⟩ : ByteArray) = t) :
    Calls Tryd.prog 15 #[.string t] w fun e w' => e = .returned (.tuple #[.int .i64 m, .bool true]) ∧ Below w.heap.size w w' := by
  subst ht
  exact readParts_yes m w hm G
set_option maxHeartbeats 1000000 in
theorem read_yes (m : Int) (w : World) (hm : -1000000000 ≤ m ∧ m ≤ 1000000000) (G : Glob w) :
    Calls Tryd.prog 6 #[str (txtI m)] w fun e w' => e = .returned (.tuple #[.int .i64 m, .bool true]) ∧ Below w.heap.size w w' := by
  have hid : clampZ 1000000000 m = m := clampZ_id hm.1 hm.2
  obtain ⟨t, ht⟩ : ∃ t : ByteArray, (⟨(txtI m).toArray⟩ : ByteArray) = t := ⟨_, rfl⟩
  have hst : Shut ((⟨(txtI m).toArray⟩ : ByteArray) = t) := ht
  have hE : (txtI m == t.toList) = true := by rw [← ht, toList_data]; simp
  show Calls Tryd.prog 6 #[.string ⟨(txtI m).toArray⟩] w _
  rw [ht]
  clear ht
  go_enter Tryd.func6, Tryd.ntmps6
  go_wp2_with (first
      | (go_at_call 15; refine (readParts_yes' m t _ hm G hst.out).mono ?_; rintro e w1 ⟨rfl, hb1⟩; have G1 := G.below hb1)
      | (go_at_call 16; refine (held_any m 1000000000 _ (by decide) (by decide)).mono ?_; rintro e w2 ⟨rfl, rfl⟩)
      | (go_at_call 14; refine (text_any m _ hm G1.tab).mono ?_; rintro e w3 ⟨rfl, hb3⟩))
  go_ret2
  exact ⟨rfl, hb1.trans (hb3.mono hb1.size)⟩
end Go.Proofs.YteoegjginncffaaDoor
