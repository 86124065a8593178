/- Pairs that meet now and did not ahead, by the specification. -/
import Derived.Test.YtbngdlbecdloiaaBrNw
import Derived.Test.YtbngdlbecdloiaaBrPs
import Derived.Deep.RegionHeld3
import Derived.Deep.DeepCutAuto
set_option maxHeartbeats 16000000
set_option maxRecDepth 20000
namespace Go.Proofs.Ytbngdlbecdloiaa
open Go.RowKit
set_option linter.unusedVariables false
set_option linter.unusedSimpArgs false
theorem bpV_get (U : Nat → Int) : ∀ (l : List (Nat × Nat)) (i x y : Nat), l[i]? = some (x, y) → ofL (bpV U l) (i * 2) = U (x * 5) ∧ ofL (bpV U l) (i * 2 + 1) = U (y * 5)
  | [], i, x, y, h => by simp at h
  | p :: l, 0, x, y, h => by
    simp only [List.getElem?_cons_zero, Option.some.injEq] at h
    subst h
    exact ⟨rfl, rfl⟩
  | p :: l, i + 1, x, y, h => by
    rw [List.getElem?_cons_succ] at h
    have q := bpV_get U l i x y h
    rw [bpV]
    refine ⟨Eq.trans ?_ q.1, Eq.trans ?_ q.2⟩
    · show (U (p.1 * 5) :: U (p.2 * 5) :: bpV U l).getD ((i + 1) * 2) 0 = _
      rw [show (i + 1) * 2 = i * 2 + 1 + 1 by omega, List.getD_cons_succ, List.getD_cons_succ]; rfl
    · show (U (p.1 * 5) :: U (p.2 * 5) :: bpV U l).getD ((i + 1) * 2 + 1) 0 = _
      rw [show (i + 1) * 2 + 1 = i * 2 + 1 + 1 + 1 by omega, List.getD_cons_succ, List.getD_cons_succ]; rfl
theorem isC_own {A : World} {B t k m : Nat} {v : Value} {U : Nat → Int} (h : OwnL A B t k v m U) : ∀ b o, v.ownBlock = some b → A.heap[b]? = some o → o.isCells = true := by
  intro b o hb ho
  rcases h.2 with ⟨hv, _⟩ | ⟨g, cap, cur, hv, _, hg, _⟩
  · subst hv; cases hb
  · subst hv
    simp only [Value.ownBlock, Option.some.injEq] at hb
    subst hb
    rw [hg] at ho; cases ho; rfl
/-- what was laid behind a list of one's own stays while the list grows -/
structure Ks (w2 wn wr : World) (v : Value) : Prop where
  siz : wn.heap.size ≤ wr.heap.size
  keep : ∀ b, w2.heap.size ≤ b → b < wn.heap.size → wr.heap[b]? = wn.heap[b]?
  own : ∀ b, v.ownBlock = some b → b < w2.heap.size ∨ wn.heap.size ≤ b
section
variable {w2 wn wr w' w7 : World} {v : Value}
theorem Ks.on (h : Ks w2 wn wr v) (hb : Below wr.heap.size wr w') : Ks w2 wn w' v := ⟨Nat.le_trans h.siz hb.size, fun b h1 h2 => (hb.block b (by have := h.siz; omega)).trans (h.keep b h1 h2), h.own⟩
theorem Ks.cell (h : Ks w2 wn wr v) {b o : Nat} (h1 : w2.heap.size ≤ b) (h2 : b < wn.heap.size) : wr.cell? ⟨b, o, none⟩ = wn.cell? ⟨b, o, none⟩ := World.cell?_of_block (w := wn) (h.keep b h1 h2)
theorem Ks.flat (h : Ks w2 wn wr v) {a : Option Addr} {m : Nat} {U : Nat → Int} (hF : Flat wn a m U) (hlo : ∀ b o, a = some ⟨b, o, none⟩ → w2.heap.size ≤ b) : Flat wr a m U := fun h0 => by
  obtain ⟨b, o, e, hl, hc⟩ := hF h0
  exact ⟨b, o, e, Nat.lt_of_lt_of_le hl h.siz, fun j hj => (h.cell (hlo b o e) hl).trans (hc j hj)⟩
theorem Ks.push (h : Ks w2 wn wr v) {g c' n : Nat} (hF : Fr (fun b => v.ownBlock = some b) wr w7) (hg : v.ownBlock = some g ∨ g = wr.heap.size) : Ks w2 wn w7 (.slice (some ⟨g, 0, none⟩) n c') := by
  have hs := h.siz
  refine ⟨Nat.le_trans hs hF.size, fun b h1 h2 => (hF.block b (by omega) (fun e => (h.own b e).elim (fun q => by omega) (fun q => by omega))).trans (h.keep b h1 h2), fun b hb => ?_⟩
  simp only [Value.ownBlock, Option.some.injEq] at hb
  subst hb
  rcases hg with e | e
  · exact h.own g e
  · exact .inr (by omega)
end
theorem step_appx {P : Program} {ops : Array Oper} {o : Oper} {a : Act} {Q : Exit → Act → World → Prop} {w : World} {K : Act → World → Prop} {E : Prop} (hgd : o.guard = none) (s x : Operand) (t : TypeId) (ho : o.op = .call { callee := .builtin .append, args := #[s, x], argTypes := #[t, t] })
    (base e k bytes : Nat) (z : Value) (ht : P.underlying t = some (.slice e)) (hinfo : (P.info? e).map (fun i => (i.zero, i.size, i.bytes)) = some (some z, k, bytes)) (hzs : z.cells.size = k) (hk : 0 < k)
    (v : Value) (n : Nat) (U : Nat → Int) (hs : a.eval s = v) (h : OwnL w base e k v n U) (b : Nat) (X : Nat → Int) (hxx : a.eval x = .slice (some ⟨b, 0, none⟩) 1 1) (hx : ∀ j, j < k → w.cell? ⟨b, j, none⟩ = some (.int .i64 (X j)))
    (h63 : n + 1 ≤ maxLen) (hbytes : (n + 1) * bytes ≤ 140737488355328) (hbase : base ≤ w.heap.size)
    (hK : ∀ g c' w', OwnL w' base e k (.slice (some ⟨g, 0, none⟩) (n + 1) c') (n + 1) (cat (n * k) U X) → w.grownBy w' v.ownBlock → (v.ownBlock = some g ∨ g = w.heap.size) → K (a.put o.dst (.slice (some ⟨g, 0, none⟩) (n + 1) c')) w') :
    if Region.wanted o (yielded ops a.tmps) = true then Oper.wp P o a w K Q else E := by
  have hw : Region.wanted o (yielded ops a.tmps) = true := by simp [Region.wanted, hgd]
  rw [if_pos hw]
  obtain ⟨i, hi, hzz⟩ := Option.map_eq_some_iff.1 hinfo
  simp only [Prod.mk.injEq] at hzz
  obtain ⟨hz, hsz, hb8⟩ := hzz
  refine wp_append_lies w s x t ho base e i z k bytes ht hi hz hsz hb8 hzs hk v n (numL (n * k) U) hs h ⟨b, 0, none⟩ 1 1 (numL (1 * k) X) hxx (numL_len _ _) ?_ ?_ (by decide) h63 hbytes hbase _ rfl ?_
  · intro j u hu
    have hj : j < 1 * k := by have := (List.getElem?_eq_some_iff.1 hu).1; rwa [numL_len] at this
    rw [numL_get hj] at hu
    rw [Addr.add_lit, Nat.zero_add, hx j (by omega)]; exact hu
  · intro u hu
    obtain ⟨q, _, rfl⟩ := List.mem_map.1 hu; rfl
  · intro g cap w' r1 r2 r3 r4
    refine hK g cap w' ?_ r2 r3
    unfold OwnL
    rw [Nat.add_mul, ← numL_cat]
    exact r1
set_option maxRecDepth 20000 in
set_option maxHeartbeats 8000000 in
theorem sBn_t (ai : Option Addr) (na ca : Nat) (Ua : Nat → Int) (bi : Option Addr) (n ci : Nat) (U : Nat → Int) (w : World) (ha : Flat w ai (na * 5) Ua) (h : Flat w bi (n * 5) U) (hna : na ≤ 1048576) (hn : n ≤ 1048576) (k0 : broadB na Ua = true) (k1 : broadB n U = true) (mo : Nat) (V : Nat → Int) (hmo : (bpL na Ua na).length = mo) (hV : V = (ofL (bpV Ua (bpL na Ua na)))) :
    Calls Try.prog 32 #[.agg #[.slice ai na ca], .agg #[.slice bi n ci]] w fun e w' => ∃ (a' : Option Addr) (c' : Nat), e = .returned (.slice a' (nwL V mo U (bpL n U n)).length c') ∧ OutL w w' 48 2 a' (nwL V mo U (bpL n U n)).length c' (ofL (bpV U (nwL V mo U (bpL n U n)))) := by
  have hset := cset_map
  have na24 := broadB_n k0
  have hn24 := broadB_n k1
  have hmo5 : mo ≤ 576 := by
    have := bpL_len na Ua na
    have := Nat.mul_le_mul na24 na24
    omega
  have hNN : (bpL n U n).length ≤ 576 := by
    have := bpL_len n U n
    have := Nat.mul_le_mul hn24 hn24
    omega
  have fl : ∀ w', Below w.heap.size w w' → Flat w' bi (n * 5) U := fun w' hb => h.below hb
  have fa : ∀ w', Below w.heap.size w w' → Flat w' ai (na * 5) Ua := fun w' hb => ha.below hb
  go_enter Try.func32, Try.ntmps32
  go_upto_region 1 with fail
  have hb1 : Below w.heap.size w (((w.alloc (.cells #[.slice ai na ca] 25)).alloc (.cells #[.slice bi n ci] 25))) := ((Below.refl _ _).alloc (Nat.le_refl _) _).alloc (by simp) _
  have y0 : (((w.alloc (.cells #[.slice ai na ca] 25)).alloc (.cells #[.slice bi n ci] 25))).cell? ⟨w.heap.size, 0, none⟩ = some (.slice ai na ca) := by go_simp
  have y1 : (((w.alloc (.cells #[.slice ai na ca] 25)).alloc (.cells #[.slice bi n ci] 25))).cell? ⟨w.heap.size + 1, 0, none⟩ = some (.slice bi n ci) := by go_simp
  have hz1 : w.heap.size + 1 < (((w.alloc (.cells #[.slice ai na ca] 25)).alloc (.cells #[.slice bi n ci] 25))).heap.size := by simp
  generalize (((w.alloc (.cells #[.slice ai na ca] 25)).alloc (.cells #[.slice bi n ci] 25))) = w1 at hb1 y0 y1 hz1 ⊢
  go_upto_region 2 with fail
  have hL := LsV.new w1 48 2
  have y0 := keepc hL.bel y0
  have y1 := keepc hL.bel y1
  have hz2 : w1.heap.size < (w1.alloc (.cells #[] 48)).heap.size := by simp
  generalize (w1.alloc (.cells #[] 48)) = w2 at hL y0 y1 hz2 ⊢
  have hb2 := hb1.trans (hL.bel.mono hb1.size)
  go_wp2_with (first
    | (have _ := u5; go_at_call 50; refine (l4Pairs_any bi n ci U _ (fl _ u5) hn24).mono ?_; rintro e wn ⟨an, cn, rfl, hO6⟩)
    | (have _ := u4; go_at_call 50; refine (l4Pairs_any ai na ca Ua _ (fa _ u4) na24).mono ?_; rintro e w5 ⟨ao, co, rfl, hO5⟩; have u5 := u4.trans (hO5.bel.mono u4.size); have z1 := keepc hO5.bel z1)
    | (have _ := u3; go_at_call 14; refine (sBroadOk_q _ _ _ U _ _ (fl _ u3) hn k1).mono ?_; rintro e w4 ⟨rfl, hb4⟩; have u4 := u3.trans (hb4.mono u3.size); have z1 := keepc hb4 z1; have z0 := keepc hb4 z0)
    | (go_at_call 14; refine (sBroadOk_q _ _ _ Ua _ _ (fa _ hb2) hna k0).mono ?_; rintro e w3 ⟨rfl, hb3⟩; have u3 := hb2.trans (hb3.mono hb2.size); have z0 := keepc hb3 y0; have z1 := keepc hb3 y1))
  have hF5 := hO5.own.flat.below hO6.bel
  have hF6 := hO6.own.flat
  have hz34 : w2.heap.size ≤ w4.heap.size := Nat.le_trans hb3.size hb4.size
  have lo5 : ∀ b o, ao = some ⟨b, o, none⟩ → w2.heap.size ≤ b := fun b o e => by have := (hO5.own.lt b (by rw [e]; rfl)).1; omega
  have hz5 := hO5.bel.size
  have lo6 : ∀ b o, an = some ⟨b, o, none⟩ → w2.heap.size ≤ b := fun b o e => by have := (hO6.own.lt b (by rw [e]; rfl)).1; omega
  have h2n : Below w2.heap.size w2 wn := hb3.trans ((hb4.trans ((hO5.bel.trans (hO6.bel.mono hz5)).mono hb4.size)).mono hb3.size)
  have hLn := hL.below h2n
  have hKn : Ks w2 wn wn (.slice (some ⟨w1.heap.size, 0, none⟩) 0 0) := ⟨Nat.le_refl _, fun _ _ _ => rfl, fun b e => by simp only [Value.ownBlock, Option.some.injEq] at e; subst e; exact .inl hz2⟩
  rw [← hV] at hF5
  rw [hmo] at hF5
  clear hO5 hO6 u3 u4 u5 z0 z1 hb3 hb4 y0 y1 hb2 fl fa h2n hL hz34 hz5
  go_loopw [5, 8] (fun s5 s8 wr => ∃ i a' m c', i ≤ (bpL n U n).length ∧ s8 = .int .i64 (i : Int) ∧ s5 = .slice a' m c' ∧ Shut ((nwL V mo U ((bpL n U n).take i)).length = m) ∧ LsV w1 wr 48 2 a' m c' (bpV U (nwL V mo U ((bpL n U n).take i))) ∧ Ks w2 wn wr (.slice a' m c')) (fun _ s8 _ => (bpL n U n).length - (intOf s8).toNat)
  case atStart => exact ⟨0, _, _, _, Nat.zero_le _, rfl, rfl, rfl, hLn, hKn⟩
  case round =>
    obtain ⟨i, a2, m, c2, hi, rfl, rfl, hm, hL8, hK8⟩ := hrel
    by_cases hlt : i < (bpL n U n).length
    · have hil : (i : Int) < ((bpL n U n).length : Int) := by omega
      obtain ⟨⟨x, y⟩, hxy⟩ : ∃ p, (bpL n U n)[i]? = some p := ⟨_, List.getElem?_eq_getElem hlt⟩
      obtain ⟨v0, v1⟩ := bpV_get U (bpL n U n) i x y hxy
      obtain ⟨b, o, rfl, hbn, hc⟩ := hF6 (by omega)
      have hb2 := lo6 b o rfl
      have c0 := hc (i * 2) (by omega)
      have c1 := hc (i * 2 + 1) (by omega)
      rw [← Nat.add_assoc] at c1
      rw [v0] at c0
      rw [v1] at c1
      have hnx : (nwL V mo U ((bpL n U n).take (i + 1))) = (nwL V mo U ((bpL n U n).take i)) ++ nwL V mo U [(x, y)] := by rw [List.take_add_one, hxy, nwL_app]; rfl
      have hm5 : m ≤ 576 := by
        have h1 := hm.out
        have h2 := nwL_len V mo U ((bpL n U n).take i)
        have h3 : ((bpL n U n).take i).length ≤ (bpL n U n).length := List.length_take_le' _ _
        omega
      clear hc v0 v1 hF6 lo6 hLn hKn
      have FF : ∀ w', Below wr.heap.size wr w' → w'.cell? ⟨b, o + i * 2, none⟩ = some (.int .i64 (U (x * 5))) ∧ w'.cell? ⟨b, o + i * 2 + 1, none⟩ = some (.int .i64 (U (y * 5))) := fun w' s => ⟨((hK8.on s).cell hb2 hbn).trans c0, ((hK8.on s).cell hb2 hbn).trans c1⟩
      have hFo : ∀ w', Below wr.heap.size wr w' → Flat w' ao (mo * 2) V := fun w' s => (hK8.on s).flat hF5 lo5
      obtain ⟨bo, hbo⟩ : ∃ q, inP V (U (x * 5)) (U (y * 5)) mo = q := ⟨_, rfl⟩
      go_upto_region 9 with fail
      go_cut [35] (fun s wc => s = .bool (!bo) ∧ Below wr.heap.size wr wc)
      case first =>
        obtain ⟨f0, f1⟩ := FF wr (Below.refl _ _)
        have hF0 := hFo wr (Below.refl _ _)
        go_wp2_with (go_at_call 58; refine (l4In_any _ _ _ hF0 (by omega) _ hbo).mono ?_; rintro e w8 ⟨rfl, hb8⟩)
        go_meet
        exact ⟨rfl, hb8⟩
      case rest =>
      obtain ⟨rfl, hB7⟩ := hcut
      obtain ⟨w9, rfl⟩ : ∃ x, x = wc := ⟨_, rfl⟩
      have hL8 := hL8.below hB7
      have hK8 := hK8.on hB7
      clear FF hFo hB7
      cases bo with
      | true =>
        rw [nwL_in hbo, List.append_nil] at hnx
        go_wp2_with fail
        go_roundw
        case rel => exact ⟨i + 1, _, _, _, by omega, by go_num, rfl, by rw [hnx]; exact hm, by rw [hnx]; exact hL8, hK8⟩
        case measure => simp [intOf]; omega
      | false =>
        rw [nwL_out hbo] at hnx
        have n0 := (hK8.cell (o := o + i * 2) hb2 hbn).trans c0
        have n1 := (hK8.cell (o := o + i * 2 + 1) hb2 hbn).trans c1
        generalize hl : bpV U (nwL V mo U ((bpL n U n).take i)) = l at hL8
        have hE := (Below.refl w9.heap.size w9).alloc (Nat.le_refl _) (Obj.cells #[.int .i64 (U (x * 5)), .int .i64 (U (y * 5))] 48)
        have hL9 := hL8.below hE
        have hK9 := hK8.on hE
        have hxx : ∀ j, j < 2 → (w9.alloc (Obj.cells #[.int .i64 (U (x * 5)), .int .i64 (U (y * 5))] 48)).cell? ⟨w9.heap.size, j, none⟩ = some (.int .i64 (ofL [U (x * 5), U (y * 5)] j)) := fun j hj => by
          rcases (show j = 0 ∨ j = 1 by omega) with rfl | rfl <;> (simp only [ofL]; go_simp; (try rfl))
        go_wp2_with (refine wpList_appx rfl _ _ _ rfl w1.heap.size 48 2 16 zcPr2 Try.underlying45 infoPr2 rfl (by decide) (.slice a2 m c2) m (ofL l) rfl hL9.own w9.heap.size (ofL [U (x * 5), U (y * 5)]) rfl hxx (by unfold maxLen; omega) (by omega) hL9.bel.size ?_; intro g7 c7 w7 ho7 hg7 hgg; have hK7 := hK9.push (n := m + 1) (c' := c7) (Fr.grown hg7 (fun b e => e) (isC_own hL9.own)) hgg; have hL7 := hL9.push (x := [U (x * 5), U (y * 5)]) rfl hg7 ho7)
        go_roundw
        case rel => exact ⟨i + 1, _, _, _, by omega, by go_num, rfl, by unfold Shut; rw [hnx, List.length_append, hm.out]; rfl, by rw [hnx, bpV_app, hl]; exact hL7, hK7⟩
        case measure => simp [intOf]; omega
    · obtain rfl : i = (bpL n U n).length := by omega
      rw [List.take_length] at hm hL8
      go_wp2_with fail
      go_ret
      obtain rfl := hm.out
      exact ⟨_, _, rfl, hb1.trans (hL8.bel.mono hb1.size), hL8.own.base hb1.size⟩
end Go.Proofs.Ytbngdlbecdloiaa
