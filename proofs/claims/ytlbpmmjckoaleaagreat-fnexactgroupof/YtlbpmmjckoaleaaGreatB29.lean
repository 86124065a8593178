/- Texts of a proof. -/
import Derived.Test.YtlbpmmjckoaleaaGreatB28
import Derived.Test.YtlbpmmjckoaleaaGreatB24
import Derived.Deep.RegionHeld3
import Derived.Deep.DeepCutAuto
import Derived.Test.YtlbpmmjckoaleaaGreatGrp
import Derived.LoopNIn
import Derived.LoopIn
import Derived.OwnWalkIn
import Derived.Laws.MakeOwn
import Derived.Test.YtlbpmmjckoaleaaGreatB26
import Derived.Test.YtlbpmmjckoaleaaGreatB6
set_option maxHeartbeats 16000000
set_option maxRecDepth 20000
namespace Go.Proofs.YtlbpmmjckoaleaaGreat
open Go.RowKit
set_option linter.unusedVariables false
set_option linter.unusedSimpArgs false
theorem LV.up {w0 w wr : World} {t g cap n : Nat} {xs : List Value} (h : LV w wr t g cap n xs) (hb : Below w0.heap.size w0 w) : LV w0 wr t g cap n xs :=
  ⟨hb.trans (h.bel.mono hb.size), h.len, ⟨h.own.1, by
    rcases h.own.2 with q | ⟨g', cap', cur, hv, hb', rest⟩
    · exact .inl q
    · exact .inr ⟨g', cap', cur, hv, Nat.le_trans hb.size hb', rest⟩⟩⟩
def joinG (l : List Int) (A B : Nat) : List Int := (l.set A (if ofL l B < ofL l A then ofL l B else ofL l A)).set B (if ofL l B < ofL l A then ofL l B else ofL l A)
def joinL (U C : Nat → Int) (l : List Int) (k : Nat) : List Int :=
  bif decide (U ((C (k * 5)).toNat * 12 + 8) = 0) || decide (U ((C (k * 5 + 1)).toNat * 12 + 8) = 0) then l else joinG l (C (k * 5)).toNat (C (k * 5 + 1)).toNat
def grpI (U C : Nat → Int) (l : List Int) : Nat → List Int
  | 0 => l
  | k + 1 => joinL U C (grpI U C l k) k
def grpR (U C : Nat → Int) (m : Nat) (l : List Int) : Nat → List Int
  | 0 => l
  | r + 1 => grpI U C (grpR U C m l r) m
def rng : Nat → List Int
  | 0 => []
  | i + 1 => rng i ++ [(i : Int)]
theorem joinG_len (l : List Int) (A B : Nat) : (joinG l A B).length = l.length := by unfold joinG; rw [List.length_set, List.length_set]
theorem joinL_len (U C : Nat → Int) (l : List Int) (k : Nat) : (joinL U C l k).length = l.length := by
  unfold joinL
  generalize (decide (U ((C (k * 5)).toNat * 12 + 8) = 0) || decide (U ((C (k * 5 + 1)).toNat * 12 + 8) = 0)) = b
  cases b
  · exact joinG_len _ _ _
  · rfl
theorem grpI_len (U C : Nat → Int) (l : List Int) : ∀ k, (grpI U C l k).length = l.length
  | 0 => rfl
  | k + 1 => by rw [grpI, joinL_len, grpI_len U C l k]
theorem grpR_len (U C : Nat → Int) (m : Nat) (l : List Int) : ∀ r, (grpR U C m l r).length = l.length
  | 0 => rfl
  | r + 1 => by rw [grpR, grpI_len, grpR_len U C m l r]
theorem rng_len : ∀ n, (rng n).length = n
  | 0 => rfl
  | n + 1 => by rw [rng, List.length_append, rng_len n]; rfl
def grpL (U C : Nat → Int) (m n : Nat) : List Int := (numS U (ofL (grpR U C m (rng n) n)) n).1
theorem l7Groups_any (a : Option Addr) (n c : Nat) (U : Nat → Int) (ac : Option Addr) (m cc : Nat) (C : Nat → Int) (w : World) (h : Flat w a (n * 12) U) (hn : n ≤ 1000) (hm : m ≤ 1048576) (h2 : Flat w ac (m * 5) C) (hC : CtOk n m C) :
    Calls Tryz.prog 24 #[.slice a n c, .slice ac m cc] w fun e w' => ∃ g1 c1, e = .returned (.slice (some ⟨g1, 0, none⟩) n c1) ∧ LV w w' 3 g1 c1 n (IV (grpL U C m n)) := by
  have hset := cset_map
  have L1 := LV.new (w := w) 3 (Below.refl _ w) rfl
  go_enter Tryz.func24, Tryz.ntmps24
  go_upto_region 3 with fail
  go_loopw [5, 6] (fun s5 s6 wr => ∃ (i g1 c1 : Nat), i ≤ n ∧ s6 = .int .i64 (i : Int) ∧ s5 = .slice (some ⟨g1, 0, none⟩) i c1 ∧ LV w wr 3 g1 c1 i (IV (rng i))) (fun _ s6 _ => n - (intOf s6).toNat)
  case atStart => exact ⟨0, _, _, Nat.zero_le _, rfl, rfl, L1⟩
  case round =>
    clear L1
    obtain ⟨i, g1, c1, hi, rfl, rfl, H1⟩ := hrel
    by_cases hlt : i < n
    · have hin : (i : Int) < (n : Int) := by omega
      have hE : Below wr.heap.size wr (wr.alloc (Obj.cells #[.int .i64 (i : Int)] 3)) := (Below.refl _ _).alloc (Nat.le_refl _) _
      have hcE : (wr.alloc (Obj.cells #[.int .i64 (i : Int)] 3)).cell? ⟨wr.heap.size, 0, none⟩ = some (.int .i64 (i : Int)) := by go_simp
      have HR : Shut (rng (i + 1) = rng i ++ [(i : Int)]) := by show _ = _; rw [rng]
      go_wp2_with (refine wpList_push rfl _ _ _ rfl 3 8 zcInt Tryz.underlying24 infoInt rfl (by decide) g1 c1 i (IV (rng i)) rfl H1 hE wr.heap.size rfl (.int .i64 (i : Int)) hcE rfl (by omega) ?_; intro g5 c5 w5 hp5 hg5 hl5)
      go_roundw
      case rel => exact ⟨i + 1, g5, c5, by omega, by go_num, rfl, by rw [HR.out, ← IV_app]; exact hp5⟩
      case measure => simp [intOf]; omega
    · obtain rfl : n = i := by omega
      go_upto_region 7 with fail
      go_loopw [7, 8, 9, 10] (fun s7 _ _ _ wr => ∃ r : Nat, r ≤ n ∧ s7 = .int .i64 (r : Int) ∧ LV w wr 3 g1 c1 n (IV (grpR U C m (rng n) r))) (fun s7 _ _ _ _ => n - (intOf s7).toNat)
      case atStart => exact ⟨0, Nat.zero_le _, rfl, H1⟩
      case round =>
        clear H1
        obtain ⟨r, hr, rfl, H1⟩ := hrel
        by_cases hlr : r < n
        · have hri : (r : Int) < (n : Int) := by omega
          have HG : Shut (grpR U C m (rng n) (r + 1) = grpI U C (grpR U C m (rng n) r) m) := by show _ = _; rw [grpR]
          have hl0 : (grpR U C m (rng n) r).length = n := by rw [grpR_len, rng_len]
          generalize grpR U C m (rng n) r = l0 at H1 HG hl0
          go_upto_region 10 with fail
          go_loopw [8, 9, 10] (fun s8 _ _ wq => ∃ k : Nat, k ≤ m ∧ s8 = .int .i64 (k : Int) ∧ LV w wq 3 g1 c1 n (IV (grpI U C l0 k))) (fun s8 _ _ _ => m - (intOf s8).toNat)
          case atStart => exact ⟨0, Nat.zero_le _, rfl, H1⟩
          case round =>
            clear H1
            obtain ⟨k, hk, rfl, H1⟩ := hrel
            by_cases hlt : k < m
            · have hkm : (k : Int) < (m : Int) := by omega
              have ca := hC.a k hlt
              have cb := hC.b k hlt
              have cn := hC.ne k hlt
              obtain ⟨b1, o1, e1, hbl1, hc1⟩ := (h2.below H1.bel) (by omega)
              have r0 := hc1 (k * 5) (by omega)
              have r1 := hc1 (k * 5 + 1) (by omega)
              have r2 := hc1 (k * 5 + 2) (by omega)
              have r3 := hc1 (k * 5 + 3) (by omega)
              have r4 := hc1 (k * 5 + 4) (by omega)
              simp only [← Nat.add_assoc] at r0 r1 r2 r3 r4
              clear hc1
              subst e1
              have HJ : Shut (grpI U C l0 (k + 1) = joinL U C (grpI U C l0 k) k) := by show _ = _; rw [grpI]
              have hll : (grpI U C l0 k).length = n := by rw [grpI_len]; exact hl0
              obtain ⟨l, hl⟩ : ∃ l, grpI U C l0 k = l := ⟨_, rfl⟩
              rw [hl] at HJ H1 hll
              clear hl
              unfold joinL at HJ
              obtain ⟨A, hA⟩ : ∃ A : Nat, C (k * 5) = (A : Int) := ⟨(C (k * 5)).toNat, by omega⟩
              obtain ⟨B, hBB⟩ : ∃ B : Nat, C (k * 5 + 1) = (B : Int) := ⟨(C (k * 5 + 1)).toNat, by omega⟩
              rw [hA, hBB, Int.toNat_natCast, Int.toNat_natCast] at HJ
              rw [hA] at ca r0 cn
              rw [hBB] at cb r1 cn
              clear hA hBB
              have hAB : ¬ A = B := fun e => cn (by rw [e])
              have hBA : ¬ B = A := fun e => cn (by rw [e])
              clear cn
              have hAn : A < n := by omega
              have hBn : B < n := by omega
              have hAi : (A : Int) < (n : Int) := ca.2
              have hBi : (B : Int) < (n : Int) := cb.2
              obtain ⟨b0, o0, e0, hbl0, hc0⟩ := (h.below H1.bel) (by omega)
              have rA := hc0 (A * 12 + 8) (by omega)
              have rB := hc0 (B * 12 + 8) (by omega)
              simp only [← Nat.add_assoc] at rA rB
              clear hc0
              subst e0
              have hE : Below wr.heap.size wr (wr.alloc (Obj.cells #[.int .i64 (A : Int), .int .i64 (B : Int), .int .i64 (C (k * 5 + 2)), .int .i64 (C (k * 5 + 3)), .int .i64 (C (k * 5 + 4))] 69)) := (Below.refl _ _).alloc (Nat.le_refl _) _
              have HE := H1.on hE
              by_cases mA : U (A * 12 + 8) = 0
              · have em : (U (A * 12 + 8) == 0) = true := by simp [mA]
                rw [decide_eq_true mA] at HJ
                clear mA
                have HJ' : Shut (grpI U C l0 (k + 1) = l) := HJ.out
                go_wp2_with fail
                go_roundw
                case rel => exact ⟨k + 1, by omega, by go_num, by rw [HJ'.out]; exact HE⟩
                case measure => simp [intOf]; omega
              · have em : (U (A * 12 + 8) == 0) = false := by simp [mA]
                by_cases mB : U (B * 12 + 8) = 0
                · have em2 : (U (B * 12 + 8) == 0) = true := by simp [mB]
                  rw [decide_eq_false mA, decide_eq_true mB] at HJ
                  clear mA mB
                  have HJ' : Shut (grpI U C l0 (k + 1) = l) := HJ.out
                  go_wp2_with fail
                  go_roundw
                  case rel => exact ⟨k + 1, by omega, by go_num, by rw [HJ'.out]; exact HE⟩
                  case measure => simp [intOf]; omega
                · have em2 : (U (B * 12 + 8) == 0) = false := by simp [mB]
                  rw [decide_eq_false mA, decide_eq_false mB] at HJ
                  clear mA mB
                  have HJ' : Shut (grpI U C l0 (k + 1) = joinG l A B) := HJ.out
                  unfold joinG at HJ'
                  obtain ⟨gm, hgm⟩ : ∃ x, (if ofL l B < ofL l A then ofL l B else ofL l A) = x := ⟨_, rfl⟩
                  rw [hgm] at HJ'
                  go_upto_region 14 with fail
                  have x0 : (wr.alloc (Obj.cells #[.int .i64 (A : Int), .int .i64 (B : Int), .int .i64 (C (k * 5 + 2)), .int .i64 (C (k * 5 + 3)), .int .i64 (C (k * 5 + 4))] 69)).cell? ⟨wr.heap.size, 0, none⟩ = some (.int .i64 (A : Int)) := by go_simp
                  have x1 : (wr.alloc (Obj.cells #[.int .i64 (A : Int), .int .i64 (B : Int), .int .i64 (C (k * 5 + 2)), .int .i64 (C (k * 5 + 3)), .int .i64 (C (k * 5 + 4))] 69)).cell? ⟨wr.heap.size, 1, none⟩ = some (.int .i64 (B : Int)) := by go_simp
                  have hgp := H1.lt
                  generalize (wr.alloc (Obj.cells #[.int .i64 (A : Int), .int .i64 (B : Int), .int .i64 (C (k * 5 + 2)), .int .i64 (C (k * 5 + 3)), .int .i64 (C (k * 5 + 4))] 69)) = wx at hE HE x0 x1 ⊢
                  have hbz := hE.size
                  generalize wr.heap.size = bp at x0 x1 hgp ⊢
                  have yA := HE.ic hAn
                  have yB := HE.ic hBn
                  have yf := HE.fro
                  have hne : ¬ bp = g1 := by omega
                  have hne' : ¬ g1 = bp := by omega
                  clear r0 r1 r2 r3 r4 rA rB em em2 hE H1
                  refine wp_region_held_drew (S := fun w' => w'.cell? ⟨bp, 0, none⟩ = some (.int .i64 (A : Int)) ∧ w'.cell? ⟨bp, 1, none⟩ = some (.int .i64 (B : Int)) ∧ w'.cell? ⟨g1, A, none⟩ = some (.int .i64 (ofL l A)) ∧ w'.cell? ⟨g1, B, none⟩ = some (.int .i64 (ofL l B))) (by kernel_rfl) ?_ (fun hHeld => ?_)
                  · (try dsimp only)
                    (first | (go_simp; done) | (go_keep; done))
                  refine tq 0 hHeld ?_
                  refine tq 1 hHeld ?_
                  refine tq 2 hHeld ?_
                  refine tq 3 hHeld ?_
                  refine tq 4 hHeld ?_
                  refine tq 5 hHeld ?_
                  refine tq 6 hHeld ?_
                  refine tq 7 hHeld ?_
                  refine tq 8 hHeld ?_
                  refine tq 9 hHeld ?_
                  refine tc 10 fun K hK => ?_
                  (go_simp
                   (go_at_call 36; refine (l3Less_q (ofL l A) (ofL l B) gm _ hgm).mono ?_; rintro e w5 ⟨rfl, hw5⟩; subst hw5)
                   (try go_wp2_with fail)
                   refine tr hK (fun hHeld => ?_)
                   clear hK K)
                  refine tq 11 hHeld ?_
                  refine wpAnyH_done (by kernel_rfl) ?_ _
                  go_wp2_with fail
                  have q1 := (HE.dr.set A (.int .i64 gm)).set B (.int .i64 gm)
                  rw [IV_set, IV_set, ← HJ'.out] at q1
                  go_roundw
                  case rel => exact ⟨k + 1, by omega, by go_num, q1⟩
                  case measure => simp [intOf]; omega
            · obtain rfl : k = m := by omega
              go_wp2_with fail
              go_roundw
              case rel => exact ⟨r + 1, by omega, by go_num, by rw [HG.out]; exact H1⟩
              case measure => simp [intOf]; omega
        · obtain rfl : r = n := by omega
          go_wp2_with (go_at_call 37; refine (l7Number_any a r c U (some ⟨g1, 0, none⟩) c1 (ofL (grpR U C m (rng r) r)) _ (h.below H1.bel) hn H1.flat).mono ?_; rintro e w5 ⟨g5, c5, rfl, hp5⟩)
          go_ret
          exact ⟨_, _, rfl, hp5.up H1.bel⟩
def gnum (fx : Nat → Bool) (L : Nat → Nat) (j : Nat) : Int := if fx j = true then -1 else (cntp (fstB fx L) (L j) : Int)
def fxU (U : Nat → Int) (j : Nat) : Bool := decide (U (j * 12 + 8) = 0)
theorem ofL_set (l : List Int) (A : Nat) (v : Int) (j : Nat) (hA : A < l.length) : ofL (l.set A v) j = if j = A then v else ofL l j := by
  unfold ofL
  rw [List.getD_eq_getElem?_getD, List.getD_eq_getElem?_getD, List.getElem?_set]
  by_cases e : A = j
  · subst e; simp [hA]
  · rw [if_neg e, if_neg (fun q => e q.symm)]
theorem join_eq {U C : Nat → Int} {n m k : Nat} (hC : CtOk n m C) (hk : k < m) {l : List Int} (hl : l.length = n) {G : Nat → Nat} (h : ∀ j, j < n → ofL l j = (G j : Int)) : ∀ j, j < n → ofL (joinL U C l k) j = (stp G (edg U C k) j : Int) := by
  intro j hj
  have ha := hC.a k hk
  have hb := hC.b k hk
  have hA : (C (k * 5)).toNat < n := by omega
  have hB : (C (k * 5 + 1)).toNat < n := by omega
  unfold joinL edg
  generalize (C (k * 5)).toNat = A at hA ⊢
  generalize (C (k * 5 + 1)).toNat = B at hB ⊢
  by_cases hu : U (A * 12 + 8) = 0
  · rw [decide_eq_true hu, if_neg (fun q => q.1 hu)]
    exact h j hj
  · by_cases hv : U (B * 12 + 8) = 0
    · rw [decide_eq_false hu, decide_eq_true hv, if_neg (fun q => q.2 hv)]
      exact h j hj
    · rw [decide_eq_false hu, decide_eq_false hv, if_pos ⟨hu, hv⟩]
      show ofL (joinG l A B) j = ((if j = A ∨ j = B then min (G A) (G B) else G j : Nat) : Int)
      unfold joinG
      rw [ofL_set _ B _ j (by rw [List.length_set]; omega), ofL_set _ A _ j (by omega), h A hA, h B hB, h j hj]
      have hm : (if (G B : Int) < (G A : Int) then (G B : Int) else (G A : Int)) = ((min (G A) (G B) : Nat) : Int) := by split <;> omega
      rw [hm]
      by_cases e1 : j = B
      · rw [if_pos e1, if_pos (Or.inr e1)]
      · rw [if_neg e1]
        by_cases e2 : j = A
        · rw [if_pos e2, if_pos (Or.inl e2)]
        · rw [if_neg e2, if_neg (fun q => q.elim e2 e1)]
theorem grpI_eq {U C : Nat → Int} {n m : Nat} (hC : CtOk n m C) {l : List Int} (hl : l.length = n) {G : Nat → Nat} (h : ∀ j, j < n → ofL l j = (G j : Int)) : ∀ k, k ≤ m → ∀ j, j < n → ofL (grpI U C l k) j = (rnd (edg U C) G k j : Int)
  | 0, _ => h
  | k + 1, hk => by
    rw [grpI, rnd]
    exact join_eq hC hk (by rw [grpI_len]; exact hl) (grpI_eq hC hl h k (by omega))
theorem rng_at : ∀ n j, j < n → ofL (rng n) j = (j : Int)
  | 0, j, h => absurd h (Nat.not_lt_zero _)
  | n + 1, j, h => by
    rw [rng]
    by_cases e : j < n
    · rw [ofL_app _ _ _ (by rw [rng_len]; exact e)]; exact rng_at n j e
    · obtain rfl : j = n := by omega
      rw [ofL_app' _ _ _ (by rw [rng_len]; exact Nat.le_refl _), rng_len, Nat.sub_self]; rfl
theorem grpR_eq {U C : Nat → Int} {n m : Nat} (hC : CtOk n m C) : ∀ r j, j < n → ofL (grpR U C m (rng n) r) j = (rnds (edg U C) m r j : Int)
  | 0 => fun j hj => rng_at n j hj
  | r + 1 => by
    rw [grpR, rnds]
    exact grpI_eq hC (by rw [grpR_len, rng_len]) (grpR_eq hC r) m (Nat.le_refl _)
def fl (p : Nat → Bool) : Nat → List Int
  | 0 => []
  | i + 1 => fl p i ++ (if p i = true then [(i : Int)] else [])
theorem fl_len (p : Nat → Bool) : ∀ i, (fl p i).length = cntp p i
  | 0 => rfl
  | i + 1 => by
    rw [fl, cntp, List.length_append, fl_len p i]
    split <;> rfl
theorem atOf_app (l x : List Int) (v : Int) : ∀ k, k ≤ l.length → atOf (l ++ x) v k = atOf l v k
  | 0, _ => rfl
  | k + 1, h => by rw [atOf, atOf, ofL_app _ _ _ h, atOf_app l x v k (by omega)]
theorem atOf_fl (p : Nat → Bool) (x : Nat) : ∀ i, atOf (fl p i) (x : Int) (cntp p i) = if x < i ∧ p x = true then (cntp p x : Int) else -1
  | 0 => by rw [if_neg (fun q => absurd q.1 (Nat.not_lt_zero _))]; rfl
  | i + 1 => by
    have ih := atOf_fl p x i
    cases hp : p i with
    | false =>
      have e1 : fl p (i + 1) = fl p i := by rw [fl, hp]; simp
      have e2 : cntp p (i + 1) = cntp p i := by rw [cntp, hp]; rfl
      rw [e1, e2, ih]
      by_cases q : x < i ∧ p x = true
      · rw [if_pos q, if_pos ⟨by omega, q.2⟩]
      · rw [if_neg q, if_neg]
        rintro ⟨a, b⟩
        by_cases e : x = i
        · subst e; rw [hp] at b; cases b
        · exact q ⟨by omega, b⟩
    | true =>
      have e1 : fl p (i + 1) = fl p i ++ [(i : Int)] := by rw [fl, hp]; rfl
      have e2 : cntp p (i + 1) = cntp p i + 1 := by rw [cntp, hp]; rfl
      have e3 : ofL (fl p i ++ [(i : Int)]) (cntp p i) = (i : Int) := by
        rw [ofL_app' _ _ _ (by rw [fl_len]; exact Nat.le_refl _), fl_len, Nat.sub_self]; rfl
      rw [e1, e2, atOf, e3, atOf_app _ _ _ _ (by rw [fl_len]; exact Nat.le_refl _), ih]
      by_cases e : i = x
      · subst e
        rw [if_pos rfl, if_pos ⟨by omega, hp⟩]
      · rw [if_neg (by omega)]
        by_cases q : x < i ∧ p x = true
        · rw [if_pos q, if_pos ⟨by omega, q.2⟩]
        · rw [if_neg q, if_neg (fun r => q ⟨by omega, r.2⟩)]
structure Tops (fx : Nat → Bool) (L : Nat → Nat) : Prop where
  le : ∀ j, L j ≤ j
  idem : ∀ j, L (L j) = L j
  fx : ∀ j, fx (L j) = fx j
theorem Tops.fst {fx : Nat → Bool} {L : Nat → Nat} (h : Tops fx L) {j : Nat} (hj : fx j = false) : fstB fx L (L j) = true := by
  unfold fstB; rw [h.fx, hj, decide_eq_true (h.idem j)]; rfl
theorem numS_eq {U G : Nat → Int} {L : Nat → Nat} {n : Nat} (hT : Tops (fxU U) L) (hG : ∀ j, j < n → G j = (L j : Int)) : ∀ i, i ≤ n → (numS U G i).2 = fl (fstB (fxU U) L) i ∧ ∀ j, j < i → ofL (numS U G i).1 j = gnum (fxU U) L j
  | 0, _ => ⟨rfl, fun j h => absurd h (Nat.not_lt_zero _)⟩
  | i + 1, hi => by
    obtain ⟨ih1, ih2⟩ := numS_eq hT hG i (by omega)
    obtain ⟨hl, -⟩ := numS_len U G i
    have fin : ∀ (v : Int) (j : Nat), v = gnum (fxU U) L i → j < i + 1 → ofL ((numS U G i).1 ++ [v]) j = gnum (fxU U) L j := fun v j hv hj => by
      by_cases e : j < i
      · rw [ofL_app _ _ _ (by omega)]; exact ih2 j e
      · obtain rfl : j = i := by omega
        rw [ofL_app' _ _ _ (by omega), hl, Nat.sub_self]
        exact hv
    by_cases hu : U (i * 12 + 8) = 0
    · have hf : fxU U i = true := decide_eq_true hu
      have hb : fstB (fxU U) L i = false := by unfold fstB; rw [hf]; rfl
      rw [numS_z hu, fl, hb]
      exact ⟨by rw [ih1]; simp, fun j hj => fin _ j (by unfold gnum; rw [if_pos hf]) hj⟩
    · have hf : fxU U i = false := decide_eq_false hu
      have ha : atOf (numS U G i).2 (G i) (numS U G i).2.length = if L i < i ∧ fstB (fxU U) L (L i) = true then (cntp (fstB (fxU U) L) (L i) : Int) else -1 := by
        rw [ih1, fl_len, hG i (by omega), atOf_fl]
      have hle := hT.le i
      by_cases e : L i = i
      · rw [if_neg (by omega)] at ha
        have hb : fstB (fxU U) L i = true := by unfold fstB; rw [hf, decide_eq_true e]; rfl
        rw [numS_n hu (by rw [ha]; decide), fl, hb]
        refine ⟨by rw [ih1, hG i (by omega), e]; rfl, fun j hj => fin _ j ?_ hj⟩
        unfold gnum
        rw [if_neg (by rw [hf]; simp), e, ih1, fl_len]
      · rw [if_pos ⟨by omega, hT.fst hf⟩] at ha
        have hb : fstB (fxU U) L i = false := by unfold fstB; rw [decide_eq_false e]; simp
        rw [numS_o hu (by rw [ha]; omega), fl, hb]
        refine ⟨by rw [ih1]; simp, fun j hj => fin _ j ?_ hj⟩
        unfold gnum
        rw [if_neg (by rw [hf]; simp), ha]
theorem lab_tops (U C : Nat → Int) (m : Nat) : Tops (fxU U) (lab (edg U C) m) := by
  refine ⟨lab_le _ m, lab_idem _ m, fun j => ?_⟩
  have h := lab_set (edg U C) (fun j => U (j * 12 + 8) = 0) m (fun i A B _ e => by
    unfold edg at e
    split at e
    · rename_i q
      simp only [Option.some.injEq, Prod.mk.injEq] at e
      obtain ⟨rfl, rfl⟩ := e
      exact ⟨fun x => absurd x q.1, fun x => absurd x q.2⟩
    · cases e) j
  unfold fxU
  exact decide_eq_decide.2 h
theorem grpL_eq {U C : Nat → Int} {n m : Nat} (hC : CtOk n m C) : ∀ j, j < n → ofL (grpL U C m n) j = gnum (fxU U) (lab (edg U C) m) j := by
  have hE : ∀ i A B, i < m → edg U C i = some (A, B) → A < n ∧ B < n := fun i A B hi e => by
    have ha := hC.a i hi
    have hb := hC.b i hi
    unfold edg at e
    split at e
    · simp only [Option.some.injEq, Prod.mk.injEq] at e
      obtain ⟨rfl, rfl⟩ := e
      omega
    · cases e
  exact (numS_eq (lab_tops U C m) (fun j hj => by rw [grpR_eq hC n j hj, rnds_lab _ m n hE j hj]) n (Nat.le_refl _)).2
def vnum (fx : Nat → Bool) (L : Nat → Nat) (k j : Nat) : Int := if fx j = false ∧ cntp (fstB fx L) (L j) < k then (cntp (fstB fx L) (L j) : Int) else -1
theorem cntp_inj (p : Nat → Bool) {i j : Nat} (hi : p i = true) (hj : p j = true) (h : cntp p i = cntp p j) : i = j := by
  rcases Nat.lt_trichotomy i j with q | q | q
  · have := cntp_in p q hi; omega
  · exact q
  · have := cntp_in p q hj; omega
theorem memL_mem (L : Nat → Nat) (i : Nat) : ∀ n j, j ∈ memL L i n ↔ j < n ∧ L j = i
  | 0, j => by simp [memL]
  | n + 1, j => by
    rw [memL, List.mem_append, memL_mem L i n j]
    by_cases h : L n = i
    · rw [if_pos h, List.mem_singleton]
      constructor
      · rintro (⟨a, b⟩ | rfl)
        · exact ⟨by omega, b⟩
        · exact ⟨by omega, h⟩
      · rintro ⟨a, b⟩
        by_cases e : j = n
        · exact .inr e
        · exact .inl ⟨by omega, b⟩
    · rw [if_neg h]
      constructor
      · rintro (⟨a, b⟩ | h)
        · exact ⟨by omega, b⟩
        · cases h
      · rintro ⟨a, b⟩
        by_cases e : j = n
        · subst e; exact absurd b h
        · exact .inl ⟨by omega, b⟩
end Go.Proofs.YtlbpmmjckoaleaaGreat
namespace Go.Proofs.YtlbpmmjckoaleaaGreat
open Go.RowKit
set_option linter.unusedVariables false
set_option linter.unusedSimpArgs false
theorem HL.some {w : World} {base cb : Nat} {v : Value} {l : List Nat} (h : HL w base cb v l) (hl : 0 < l.length) : ∃ g c : Nat, v = .slice (some ⟨g, 0, none⟩) l.length c ∧ base ≤ g ∧ g < w.heap.size := by
  rcases h.2 with ⟨_, e⟩ | ⟨g, cap, cur, hv, hb, _⟩
  · omega
  · exact ⟨g, cap, hv, hb, (h.lt g (by rw [hv]; rfl)).2⟩
theorem LV.blk {w wr w' : World} {t g cap n : Nat} {xs : List Value} (h : LV w wr t g cap n xs) (hb : Below w.heap.size wr w') (e : w'.heap[g]? = wr.heap[g]?) : LV w w' t g cap n xs := by
  refine ⟨h.bel.trans hb, h.len, h.own.1, ?_⟩
  rcases h.own.2 with ⟨q, _⟩ | ⟨g', cap', cur, hv, hb', hg, rest⟩
  · cases q
  · cases hv
    exact .inr ⟨g, cap, cur, rfl, hb', e.trans hg, rest⟩
theorem LV.sm {w wr w' : World} {B t g cap n : Nat} {xs : List Value} (h : LV w wr t g cap n xs) (hs : Sm B wr w') (hB : w.heap.size ≤ B) : LV w w' t g cap n xs := by
  refine h.blk (hs.below.mono hB) ?_
  rcases h.own.2 with ⟨q, _⟩ | ⟨g', cap', cur, hv, hb', hg, rest⟩
  · cases q
  · cases hv
    exact (hs.cells _ _ hg rfl).trans hg.symm
theorem LV.made (w : World) (t n : Nat) (hn : n ≤ maxLen) : LV w (w.alloc (.cells (madeCells #[.int .i64 0] n) t)) t w.heap.size n n (IV (List.replicate n 0)) := by
  have e : (madeCells #[Value.int .i64 0] n).toList = IV (List.replicate n 0) := by
    unfold madeCells IV
    apply List.ext_getElem?
    intro j
    by_cases h : j < n
    · simp [h, Nat.mod_one]
    · simp [h]
  refine ⟨(Below.refl _ _).alloc (Nat.le_refl _) _, by rw [IV_len, List.length_replicate], by rw [IV_len, List.length_replicate, Nat.mul_one], .inr ⟨w.heap.size, n, _, rfl, Nat.le_refl _, Go.Deep.blk_alloc_new _ _, Nat.le_refl _, hn, by rw [size_madeCells, Nat.mul_one], ?_⟩⟩
  rw [e, Nat.mul_one, List.take_of_length_le (by rw [IV_len, List.length_replicate]; exact Nat.le_refl _)]
structure Nr (w A : World) (g lb n : Nat) (l : List Int) : Prop where
  lv : LV w A 3 g n n (IV l)
  box : A.cell? ⟨lb, 0, none⟩ = some (.slice (some ⟨g, 0, none⟩) n n)
  lo : w.heap.size ≤ lb
  ne : lb ≠ g
section
variable {w A A' : World} {g lb n : Nat} {l : List Int}
theorem Nr.lt (h : Nr w A g lb n l) : lb < A.heap.size := cell_lt (a := ⟨lb, 0, none⟩) h.box
theorem Nr.len (h : Nr w A g lb n l) : l.length = n := by have := h.lv.len; rwa [IV_len] at this
theorem Nr.blk (h : Nr w A g lb n l) (hb : Below w.heap.size A A') (e1 : A'.heap[g]? = A.heap[g]?) (e2 : A'.heap[lb]? = A.heap[lb]?) : Nr w A' g lb n l :=
  ⟨h.lv.blk hb e1, (World.cell?_of_block (w := A) (a := ⟨lb, 0, none⟩) e2).trans h.box, h.lo, h.ne⟩
theorem Nr.below {B : Nat} (h : Nr w A g lb n l) (hb : Below B A A') (hB : w.heap.size ≤ B) (h1 : g < B) (h2 : lb < B) : Nr w A' g lb n l := h.blk (hb.mono hB) (hb.block g h1) (hb.block lb h2)
theorem Nr.on (h : Nr w A g lb n l) (hb : Below A.heap.size A A') : Nr w A' g lb n l := h.below hb h.lv.bel.size h.lv.lt.2 h.lt
theorem Nr.sm {B : Nat} (h : Nr w A g lb n l) (hs : Sm B A A') (hB : w.heap.size ≤ B) : Nr w A' g lb n l := ⟨h.lv.sm hs hB, hs.cell h.box, h.lo, h.ne⟩
theorem Nr.set (h : Nr w A g lb n l) (j : Nat) (x : Int) : Nr w (A.setCell ⟨g, j, none⟩ (.int .i64 x)) g lb n (l.set j x) :=
  ⟨by rw [← IV_set]; exact h.lv.set j _, by rw [cset_far (by simp; exact h.ne)]; exact h.box, h.lo, h.ne⟩
end
section
attribute [local go_sem] Oper.semAt_some
end
end Go.Proofs.YtlbpmmjckoaleaaGreat
namespace Go.Proofs.YtlbpmmjckoaleaaGreat
open Go.RowKit
set_option linter.unusedVariables false
set_option linter.unusedSimpArgs false
theorem index_any {cb base : Nat} {v : Value} {ms : List Nat} (k : Nat) (w : World) (h : HL w base cb v ms) (hms : ms.length ≤ 12) :
    Calls Tryz.prog 78 #[v, hdk cb k] w fun e w' => (∃ r : Int, e = .returned (.int .i64 r) ∧ decide (0 ≤ r) = decide (k ∈ ms)) ∧ Below w.heap.size w w' := by
  have hset := cset_map
  obtain ⟨ad, cc, rfl⟩ := h.is
  have hE : Below w.heap.size w (w.alloc (Obj.cells #[.int .i64 (k : Int), .pointer (some ⟨cb, 0, none⟩)] 80)) := (Below.refl _ _).alloc (Nat.le_refl _) _
  have v0 : (w.alloc (Obj.cells #[.int .i64 (k : Int), .pointer (some ⟨cb, 0, none⟩)] 80)).cell? ⟨w.heap.size, 0, none⟩ = some (.int .i64 (k : Int)) := by go_simp
  have v1 : (w.alloc (Obj.cells #[.int .i64 (k : Int), .pointer (some ⟨cb, 0, none⟩)] 80)).cell? ⟨w.heap.size, 1, none⟩ = some (.pointer (some ⟨cb, 0, none⟩)) := by go_simp
  have hz : (w.alloc (Obj.cells #[.int .i64 (k : Int), .pointer (some ⟨cb, 0, none⟩)] 80)).heap.size = w.heap.size + 1 := by simp
  have h1 := h.below hE
  go_enter Tryz.func78, Tryz.ntmps78
  go_upto_region 2 with fail
  generalize (w.alloc (Obj.cells #[.int .i64 (k : Int), .pointer (some ⟨cb, 0, none⟩)] 80)) = w1 at hE v0 v1 hz h1 ⊢
  go_loopw [8] (fun s wr => ∃ q : Nat, q ≤ ms.length ∧ s = .int .i64 (q : Int) ∧ k ∉ ms.take q ∧ Below w1.heap.size w1 wr) (fun s _ => ms.length - (intOf s).toNat)
  case atStart => exact ⟨0, Nat.zero_le _, rfl, by simp, Below.refl _ _⟩
  case round =>
    obtain ⟨q, hq, rfl, hno, hB⟩ := hrel
    have b0 := (hB.cell (p := ⟨w.heap.size, 0, none⟩) (by show w.heap.size < w1.heap.size; omega)).trans v0
    have b1 := (hB.cell (p := ⟨w.heap.size, 1, none⟩) (by show w.heap.size < w1.heap.size; omega)).trans v1
    by_cases hlt : q < ms.length
    · obtain ⟨g, c, he, -, -⟩ := h1.some (by omega)
      cases he
      obtain ⟨c0, c1⟩ := (h1.below hB).cells hlt
      obtain ⟨r, hr⟩ : ∃ r, ms[q] = r := ⟨_, rfl⟩
      rw [hr] at c0
      have hqi : (q : Int) < (ms.length : Int) := by omega
      have hev := eq_han0 (k : Int) (r : Int) cb
      by_cases he : k = r
      · have he2 : ((k : Int) == (r : Int)) = true := beq_iff_eq.2 (by omega)
        have hin : k ∈ ms := by rw [he, ← hr]; exact List.getElem_mem hlt
        rw [he2] at hev
        clear he he2
        go_upto_region 4 with fail
        refine wp_region_held_drew (S := fun w' => w'.cell? ⟨w.heap.size, 0, none⟩ = some (.int .i64 (k : Int)) ∧ w'.cell? ⟨w.heap.size, 1, none⟩ = some (.pointer (some ⟨cb, 0, none⟩)) ∧ w'.cell? ⟨g, q * 2, none⟩ = some (.int .i64 (r : Int)) ∧ w'.cell? ⟨g, q * 2 + 1, none⟩ = some (.pointer (some ⟨cb, 0, none⟩))) (by kernel_rfl) ?_ (fun hHeld => ?_)
        · (try dsimp only)
          (first | (go_simp; done) | (go_keep; done))
        refine tq 0 hHeld ?_
        refine tq 1 hHeld ?_
        refine tq 2 hHeld ?_
        refine tq 3 hHeld ?_
        refine tq 4 hHeld ?_
        refine tq 5 hHeld ?_
        refine wpAnyH_done (by kernel_rfl) ?_ _
        go_wp2_with fail
        go_ret
        exact ⟨⟨_, rfl, by rw [decide_eq_true hin, decide_eq_true (by omega)]⟩, hE.trans ((hB.mono (by omega)).drew)⟩
      · have he2 : ((k : Int) == (r : Int)) = false := beq_eq_false_iff_ne.2 (by omega)
        rw [he2] at hev
        clear he2
        go_upto_region 4 with fail
        refine wp_region_held_drew (S := fun w' => w'.cell? ⟨w.heap.size, 0, none⟩ = some (.int .i64 (k : Int)) ∧ w'.cell? ⟨w.heap.size, 1, none⟩ = some (.pointer (some ⟨cb, 0, none⟩)) ∧ w'.cell? ⟨g, q * 2, none⟩ = some (.int .i64 (r : Int)) ∧ w'.cell? ⟨g, q * 2 + 1, none⟩ = some (.pointer (some ⟨cb, 0, none⟩))) (by kernel_rfl) ?_ (fun hHeld => ?_)
        · (try dsimp only)
          (first | (go_simp; done) | (go_keep; done))
        refine tq 0 hHeld ?_
        refine tq 1 hHeld ?_
        refine tq 2 hHeld ?_
        refine tq 3 hHeld ?_
        refine tq 4 hHeld ?_
        refine tq 5 hHeld ?_
        refine wpAnyH_done (by kernel_rfl) ?_ _
        go_wp2_with fail
        go_roundw
        case rel => exact ⟨q + 1, by omega, by go_num, by rw [List.take_succ_eq_append_getElem hlt, List.mem_append, List.mem_singleton, hr]; exact fun x => x.elim hno he, hB.drew⟩
        case measure => simp [intOf]; omega
    · obtain rfl : q = ms.length := by omega
      rw [List.take_length] at hno
      go_wp2_with fail
      go_ret
      exact ⟨⟨_, rfl, by rw [decide_eq_false hno]; rfl⟩, hE.trans (hB.mono (by omega))⟩
theorem contains_any {cb base : Nat} {v : Value} {ms : List Nat} (k : Nat) (w : World) (h : HL w base cb v ms) (hms : ms.length ≤ 12) (b : Bool) (hb : decide (k ∈ ms) = b) :
    Calls Tryz.prog 51 #[v, hdk cb k] w fun e w' => e = .returned (.bool b) ∧ Below w.heap.size w w' := by
  have hset := cset_map
  go_enter Tryz.func51, Tryz.ntmps51
  go_wp2_with (go_at_call 78; refine (index_any k _ (h.below ((Below.refl _ _).alloc (Nat.le_refl _) _)) hms).mono ?_; rintro e w1 ⟨⟨r, rfl, hr⟩, hb1⟩; rw [hb] at hr)
  go_ret
  have k1 := ((Below.refl w.heap.size w).alloc (Nat.le_refl _) (Obj.cells #[.int .i64 (k : Int), .pointer (some ⟨cb, 0, none⟩)] 80)).trans (hb1.mono (by simp))
  exact ⟨by rw [← hr]; simp, k1⟩
end Go.Proofs.YtlbpmmjckoaleaaGreat
