/- Groups, by the specification. The numbers of the groups: the specification's list, said of tops. The numbers of all groups, by the program. Whether bodies are ok: both sides. All contacts, by the specification. Groups of both sides. Lists of bodies: turned into the program's own, held against each other, how great. -/
import Derived.Test.YtlbpmmjckoaleaaGreatB11
import Derived.Test.YtlbpmmjckoaleaaGreatB9
import Derived.Deep.RegionHeld3
import Derived.Deep.DeepCutAuto
import Derived.LoopNIn
import Derived.LoopIn
import Derived.OwnWalkIn
import Derived.Laws.MakeOwn
import Derived.Test.YtlbpmmjckoaleaaGreatB4
import Derived.Test.YtlbpmmjckoaleaaGreatB6
import Derived.Test.YtlbpmmjckoaleaaGreatB1
namespace Go.Proofs.YtlbpmmjckoaleaaGreat
open Go.RowKit
set_option linter.unusedVariables false
set_option linter.unusedSimpArgs false
theorem LV.up {w0 w wr : World} {t g cap n : Nat} {xs : List Value} (h : LV w wr t g cap n xs) (hb : Below w0.heap.size w0 w) : LV w0 wr t g cap n xs :=
  ⟨hb.trans (h.bel.mono hb.size), h.len, ⟨h.own.1, by
    rcases h.own.2 with q | ⟨g', cap', cur, hv, hb', rest⟩
    · exact .inl q
    · exact .inr ⟨g', cap', cur, hv, Nat.le_trans hb.size hb', rest⟩⟩⟩
/-- two that touch, and can move, are of the lesser group -/
def joinG (l : List Int) (A B : Nat) : List Int := (l.set A (if ofL l B < ofL l A then ofL l B else ofL l A)).set B (if ofL l B < ofL l A then ofL l B else ofL l A)
def joinL (U C : Nat → Int) (l : List Int) (k : Nat) : List Int :=
  bif decide (U ((C (k * 5)).toNat * 12 + 8) = 0) || decide (U ((C (k * 5 + 1)).toNat * 12 + 8) = 0) then l else joinG l (C (k * 5)).toNat (C (k * 5 + 1)).toNat
def grpI (U C : Nat → Int) (l : List Int) : Nat → List Int
  | 0 => l
  | k + 1 => joinL U C (grpI U C l k) k
def grpR (U C : Nat → Int) (m : Nat) (l : List Int) : Nat → List Int
  | 0 => l
  | r + 1 => grpI U C (grpR U C m l r) m
def rng : Nat → List Int
  | 0 => []
  | i + 1 => rng i ++ [(i : Int)]
theorem joinG_len (l : List Int) (A B : Nat) : (joinG l A B).length = l.length := by unfold joinG; rw [List.length_set, List.length_set]
theorem joinL_len (U C : Nat → Int) (l : List Int) (k : Nat) : (joinL U C l k).length = l.length := by
  unfold joinL
  generalize (decide (U ((C (k * 5)).toNat * 12 + 8) = 0) || decide (U ((C (k * 5 + 1)).toNat * 12 + 8) = 0)) = b
  cases b
  · exact joinG_len _ _ _
  · rfl
theorem grpI_len (U C : Nat → Int) (l : List Int) : ∀ k, (grpI U C l k).length = l.length
  | 0 => rfl
  | k + 1 => by rw [grpI, joinL_len, grpI_len U C l k]
theorem grpR_len (U C : Nat → Int) (m : Nat) (l : List Int) : ∀ r, (grpR U C m l r).length = l.length
  | 0 => rfl
  | r + 1 => by rw [grpR, grpI_len, grpR_len U C m l r]
theorem rng_len : ∀ n, (rng n).length = n
  | 0 => rfl
  | n + 1 => by rw [rng, List.length_append, rng_len n]; rfl
/-- the groups of n bodies with m contacts -/
def grpL (U C : Nat → Int) (m n : Nat) : List Int := (numS U (ofL (grpR U C m (rng n) n)) n).1
set_option maxRecDepth 20000 in
set_option maxHeartbeats 8000000 in
theorem l7Groups_any (a : Option Addr) (n c : Nat) (U : Nat → Int) (ac : Option Addr) (m cc : Nat) (C : Nat → Int) (w : World) (h : Flat w a (n * 12) U) (hn : n ≤ 1000) (hm : m ≤ 1048576) (h2 : Flat w ac (m * 5) C) (hC : CtOk n m C) :
    Calls Tryz.prog 24 #[.slice a n c, .slice ac m cc] w fun e w' => ∃ g1 c1, e = .returned (.slice (some ⟨g1, 0, none⟩) n c1) ∧ LV w w' 3 g1 c1 n (IV (grpL U C m n)) := by
  have hset := cset_map
  have L1 := LV.new (w := w) 3 (Below.refl _ w) rfl
  go_enter Tryz.func24, Tryz.ntmps24
  go_upto_region 3 with fail
  go_loopw [5, 6] (fun s5 s6 wr => ∃ (i g1 c1 : Nat), i ≤ n ∧ s6 = .int .i64 (i : Int) ∧ s5 = .slice (some ⟨g1, 0, none⟩) i c1 ∧ LV w wr 3 g1 c1 i (IV (rng i))) (fun _ s6 _ => n - (intOf s6).toNat)
  case atStart => exact ⟨0, _, _, Nat.zero_le _, rfl, rfl, L1⟩
  case round =>
    clear L1
    obtain ⟨i, g1, c1, hi, rfl, rfl, H1⟩ := hrel
    by_cases hlt : i < n
    · have hin : (i : Int) < (n : Int) := by omega
      have hE : Below wr.heap.size wr (wr.alloc (Obj.cells #[.int .i64 (i : Int)] 3)) := (Below.refl _ _).alloc (Nat.le_refl _) _
      have hcE : (wr.alloc (Obj.cells #[.int .i64 (i : Int)] 3)).cell? ⟨wr.heap.size, 0, none⟩ = some (.int .i64 (i : Int)) := by go_simp
      have HR : Shut (rng (i + 1) = rng i ++ [(i : Int)]) := by show _ = _; rw [rng]
      go_wp2_with (refine wpList_push rfl _ _ _ rfl 3 8 zcInt Tryz.underlying24 infoInt rfl (by decide) g1 c1 i (IV (rng i)) rfl H1 hE wr.heap.size rfl (.int .i64 (i : Int)) hcE rfl (by omega) ?_; intro g5 c5 w5 hp5 hg5 hl5)
      go_roundw
      case rel => exact ⟨i + 1, g5, c5, by omega, by go_num, rfl, by rw [HR.out, ← IV_app]; exact hp5⟩
      case measure => simp [intOf]; omega
    · obtain rfl : n = i := by omega
      go_upto_region 7 with fail
      go_loopw [7, 8, 9, 10] (fun s7 _ _ _ wr => ∃ r : Nat, r ≤ n ∧ s7 = .int .i64 (r : Int) ∧ LV w wr 3 g1 c1 n (IV (grpR U C m (rng n) r))) (fun s7 _ _ _ _ => n - (intOf s7).toNat)
      case atStart => exact ⟨0, Nat.zero_le _, rfl, H1⟩
      case round =>
        clear H1
        obtain ⟨r, hr, rfl, H1⟩ := hrel
        by_cases hlr : r < n
        · have hri : (r : Int) < (n : Int) := by omega
          have HG : Shut (grpR U C m (rng n) (r + 1) = grpI U C (grpR U C m (rng n) r) m) := by show _ = _; rw [grpR]
          have hl0 : (grpR U C m (rng n) r).length = n := by rw [grpR_len, rng_len]
          generalize grpR U C m (rng n) r = l0 at H1 HG hl0
          go_upto_region 10 with fail
          go_loopw [8, 9, 10] (fun s8 _ _ wq => ∃ k : Nat, k ≤ m ∧ s8 = .int .i64 (k : Int) ∧ LV w wq 3 g1 c1 n (IV (grpI U C l0 k))) (fun s8 _ _ _ => m - (intOf s8).toNat)
          case atStart => exact ⟨0, Nat.zero_le _, rfl, H1⟩
          case round =>
            clear H1
            obtain ⟨k, hk, rfl, H1⟩ := hrel
            by_cases hlt : k < m
            · have hkm : (k : Int) < (m : Int) := by omega
              have ca := hC.a k hlt
              have cb := hC.b k hlt
              have cn := hC.ne k hlt
              obtain ⟨b1, o1, e1, hbl1, hc1⟩ := (h2.below H1.bel) (by omega)
              have r0 := hc1 (k * 5) (by omega)
              have r1 := hc1 (k * 5 + 1) (by omega)
              have r2 := hc1 (k * 5 + 2) (by omega)
              have r3 := hc1 (k * 5 + 3) (by omega)
              have r4 := hc1 (k * 5 + 4) (by omega)
              simp only [← Nat.add_assoc] at r0 r1 r2 r3 r4
              clear hc1
              subst e1
              have HJ : Shut (grpI U C l0 (k + 1) = joinL U C (grpI U C l0 k) k) := by show _ = _; rw [grpI]
              have hll : (grpI U C l0 k).length = n := by rw [grpI_len]; exact hl0
              obtain ⟨l, hl⟩ : ∃ l, grpI U C l0 k = l := ⟨_, rfl⟩
              rw [hl] at HJ H1 hll
              clear hl
              unfold joinL at HJ
              obtain ⟨A, hA⟩ : ∃ A : Nat, C (k * 5) = (A : Int) := ⟨(C (k * 5)).toNat, by omega⟩
              obtain ⟨B, hBB⟩ : ∃ B : Nat, C (k * 5 + 1) = (B : Int) := ⟨(C (k * 5 + 1)).toNat, by omega⟩
              rw [hA, hBB, Int.toNat_natCast, Int.toNat_natCast] at HJ
              rw [hA] at ca r0 cn
              rw [hBB] at cb r1 cn
              clear hA hBB
              have hAB : ¬ A = B := fun e => cn (by rw [e])
              have hBA : ¬ B = A := fun e => cn (by rw [e])
              clear cn
              have hAn : A < n := by omega
              have hBn : B < n := by omega
              have hAi : (A : Int) < (n : Int) := ca.2
              have hBi : (B : Int) < (n : Int) := cb.2
              obtain ⟨b0, o0, e0, hbl0, hc0⟩ := (h.below H1.bel) (by omega)
              have rA := hc0 (A * 12 + 8) (by omega)
              have rB := hc0 (B * 12 + 8) (by omega)
              simp only [← Nat.add_assoc] at rA rB
              clear hc0
              subst e0
              have hE : Below wr.heap.size wr (wr.alloc (Obj.cells #[.int .i64 (A : Int), .int .i64 (B : Int), .int .i64 (C (k * 5 + 2)), .int .i64 (C (k * 5 + 3)), .int .i64 (C (k * 5 + 4))] 69)) := (Below.refl _ _).alloc (Nat.le_refl _) _
              have HE := H1.on hE
              by_cases mA : U (A * 12 + 8) = 0
              · have em : (U (A * 12 + 8) == 0) = true := by simp [mA]
                rw [decide_eq_true mA] at HJ
                clear mA
                have HJ' : Shut (grpI U C l0 (k + 1) = l) := HJ.out
                go_wp2_with fail
                go_roundw
                case rel => exact ⟨k + 1, by omega, by go_num, by rw [HJ'.out]; exact HE⟩
                case measure => simp [intOf]; omega
              · have em : (U (A * 12 + 8) == 0) = false := by simp [mA]
                by_cases mB : U (B * 12 + 8) = 0
                · have em2 : (U (B * 12 + 8) == 0) = true := by simp [mB]
                  rw [decide_eq_false mA, decide_eq_true mB] at HJ
                  clear mA mB
                  have HJ' : Shut (grpI U C l0 (k + 1) = l) := HJ.out
                  go_wp2_with fail
                  go_roundw
                  case rel => exact ⟨k + 1, by omega, by go_num, by rw [HJ'.out]; exact HE⟩
                  case measure => simp [intOf]; omega
                · have em2 : (U (B * 12 + 8) == 0) = false := by simp [mB]
                  rw [decide_eq_false mA, decide_eq_false mB] at HJ
                  clear mA mB
                  have HJ' : Shut (grpI U C l0 (k + 1) = joinG l A B) := HJ.out
                  unfold joinG at HJ'
                  obtain ⟨gm, hgm⟩ : ∃ x, (if ofL l B < ofL l A then ofL l B else ofL l A) = x := ⟨_, rfl⟩
                  rw [hgm] at HJ'
                  go_upto_region 14 with fail
                  have x0 : (wr.alloc (Obj.cells #[.int .i64 (A : Int), .int .i64 (B : Int), .int .i64 (C (k * 5 + 2)), .int .i64 (C (k * 5 + 3)), .int .i64 (C (k * 5 + 4))] 69)).cell? ⟨wr.heap.size, 0, none⟩ = some (.int .i64 (A : Int)) := by go_simp
                  have x1 : (wr.alloc (Obj.cells #[.int .i64 (A : Int), .int .i64 (B : Int), .int .i64 (C (k * 5 + 2)), .int .i64 (C (k * 5 + 3)), .int .i64 (C (k * 5 + 4))] 69)).cell? ⟨wr.heap.size, 1, none⟩ = some (.int .i64 (B : Int)) := by go_simp
                  have hgp := H1.lt
                  generalize (wr.alloc (Obj.cells #[.int .i64 (A : Int), .int .i64 (B : Int), .int .i64 (C (k * 5 + 2)), .int .i64 (C (k * 5 + 3)), .int .i64 (C (k * 5 + 4))] 69)) = wx at hE HE x0 x1 ⊢
                  have hbz := hE.size
                  generalize wr.heap.size = bp at x0 x1 hgp ⊢
                  have yA := HE.ic hAn
                  have yB := HE.ic hBn
                  have yf := HE.fro
                  have hne : ¬ bp = g1 := by omega
                  have hne' : ¬ g1 = bp := by omega
                  clear r0 r1 r2 r3 r4 rA rB em em2 hE H1
                  refine wp_region_held_drew (S := fun w' => w'.cell? ⟨bp, 0, none⟩ = some (.int .i64 (A : Int)) ∧ w'.cell? ⟨bp, 1, none⟩ = some (.int .i64 (B : Int)) ∧ w'.cell? ⟨g1, A, none⟩ = some (.int .i64 (ofL l A)) ∧ w'.cell? ⟨g1, B, none⟩ = some (.int .i64 (ofL l B))) (by kernel_rfl) ?_ (fun hHeld => ?_)
                  · (try dsimp only)
                    (first | (go_simp; done) | (go_keep; done))
                  refine tq 0 hHeld ?_
                  refine tq 1 hHeld ?_
                  refine tq 2 hHeld ?_
                  refine tq 3 hHeld ?_
                  refine tq 4 hHeld ?_
                  refine tq 5 hHeld ?_
                  refine tq 6 hHeld ?_
                  refine tq 7 hHeld ?_
                  refine tq 8 hHeld ?_
                  refine tq 9 hHeld ?_
                  refine tc 10 fun K hK => ?_
                  (go_simp
                   (go_at_call 36; refine (l3Less_q (ofL l A) (ofL l B) gm _ hgm).mono ?_; rintro e w5 ⟨rfl, hw5⟩; subst hw5)
                   (try go_wp2_with fail)
                   refine tr hK (fun hHeld => ?_)
                   clear hK K)
                  refine tq 11 hHeld ?_
                  refine wpAnyH_done (by kernel_rfl) ?_ _
                  go_wp2_with fail
                  have q1 := (HE.dr.set A (.int .i64 gm)).set B (.int .i64 gm)
                  rw [IV_set, IV_set, ← HJ'.out] at q1
                  go_roundw
                  case rel => exact ⟨k + 1, by omega, by go_num, q1⟩
                  case measure => simp [intOf]; omega
            · obtain rfl : k = m := by omega
              go_wp2_with fail
              go_roundw
              case rel => exact ⟨r + 1, by omega, by go_num, by rw [HG.out]; exact H1⟩
              case measure => simp [intOf]; omega
        · obtain rfl : r = n := by omega
          go_wp2_with (go_at_call 37; refine (l7Number_any a r c U (some ⟨g1, 0, none⟩) c1 (ofL (grpR U C m (rng r) r)) _ (h.below H1.bel) hn H1.flat).mono ?_; rintro e w5 ⟨g5, c5, rfl, hp5⟩)
          go_ret
          exact ⟨_, _, rfl, hp5.up H1.bel⟩
end Go.Proofs.YtlbpmmjckoaleaaGreat
namespace Go.Proofs.YtlbpmmjckoaleaaGreat
open Go.RowKit
set_option linter.unusedVariables false
set_option linter.unusedSimpArgs false
/-- the number of a body's group -/
def gnum (fx : Nat → Bool) (L : Nat → Nat) (j : Nat) : Int := if fx j = true then -1 else (cntp (fstB fx L) (L j) : Int)
def fxU (U : Nat → Int) (j : Nat) : Bool := decide (U (j * 12 + 8) = 0)
theorem ofL_set (l : List Int) (A : Nat) (v : Int) (j : Nat) (hA : A < l.length) : ofL (l.set A v) j = if j = A then v else ofL l j := by
  unfold ofL
  rw [List.getD_eq_getElem?_getD, List.getD_eq_getElem?_getD, List.getElem?_set]
  by_cases e : A = j
  · subst e; simp [hA]
  · rw [if_neg e, if_neg (fun q => e q.symm)]
theorem join_eq {U C : Nat → Int} {n m k : Nat} (hC : CtOk n m C) (hk : k < m) {l : List Int} (hl : l.length = n) {G : Nat → Nat} (h : ∀ j, j < n → ofL l j = (G j : Int)) : ∀ j, j < n → ofL (joinL U C l k) j = (stp G (edg U C k) j : Int) := by
  intro j hj
  have ha := hC.a k hk
  have hb := hC.b k hk
  have hA : (C (k * 5)).toNat < n := by omega
  have hB : (C (k * 5 + 1)).toNat < n := by omega
  unfold joinL edg
  generalize (C (k * 5)).toNat = A at hA ⊢
  generalize (C (k * 5 + 1)).toNat = B at hB ⊢
  by_cases hu : U (A * 12 + 8) = 0
  · rw [decide_eq_true hu, if_neg (fun q => q.1 hu)]
    exact h j hj
  · by_cases hv : U (B * 12 + 8) = 0
    · rw [decide_eq_false hu, decide_eq_true hv, if_neg (fun q => q.2 hv)]
      exact h j hj
    · rw [decide_eq_false hu, decide_eq_false hv, if_pos ⟨hu, hv⟩]
      show ofL (joinG l A B) j = ((if j = A ∨ j = B then min (G A) (G B) else G j : Nat) : Int)
      unfold joinG
      rw [ofL_set _ B _ j (by rw [List.length_set]; omega), ofL_set _ A _ j (by omega), h A hA, h B hB, h j hj]
      have hm : (if (G B : Int) < (G A : Int) then (G B : Int) else (G A : Int)) = ((min (G A) (G B) : Nat) : Int) := by split <;> omega
      rw [hm]
      by_cases e1 : j = B
      · rw [if_pos e1, if_pos (Or.inr e1)]
      · rw [if_neg e1]
        by_cases e2 : j = A
        · rw [if_pos e2, if_pos (Or.inl e2)]
        · rw [if_neg e2, if_neg (fun q => q.elim e2 e1)]
theorem grpI_eq {U C : Nat → Int} {n m : Nat} (hC : CtOk n m C) {l : List Int} (hl : l.length = n) {G : Nat → Nat} (h : ∀ j, j < n → ofL l j = (G j : Int)) : ∀ k, k ≤ m → ∀ j, j < n → ofL (grpI U C l k) j = (rnd (edg U C) G k j : Int)
  | 0, _ => h
  | k + 1, hk => by
    rw [grpI, rnd]
    exact join_eq hC hk (by rw [grpI_len]; exact hl) (grpI_eq hC hl h k (by omega))
theorem rng_at : ∀ n j, j < n → ofL (rng n) j = (j : Int)
  | 0, j, h => absurd h (Nat.not_lt_zero _)
  | n + 1, j, h => by
    rw [rng]
    by_cases e : j < n
    · rw [ofL_app _ _ _ (by rw [rng_len]; exact e)]; exact rng_at n j e
    · obtain rfl : j = n := by omega
      rw [ofL_app' _ _ _ (by rw [rng_len]; exact Nat.le_refl _), rng_len, Nat.sub_self]; rfl
theorem grpR_eq {U C : Nat → Int} {n m : Nat} (hC : CtOk n m C) : ∀ r j, j < n → ofL (grpR U C m (rng n) r) j = (rnds (edg U C) m r j : Int)
  | 0 => fun j hj => rng_at n j hj
  | r + 1 => by
    rw [grpR, rnds]
    exact grpI_eq hC (by rw [grpR_len, rng_len]) (grpR_eq hC r) m (Nat.le_refl _)
/-- the firsts, in their order -/
def fl (p : Nat → Bool) : Nat → List Int
  | 0 => []
  | i + 1 => fl p i ++ (if p i = true then [(i : Int)] else [])
theorem fl_len (p : Nat → Bool) : ∀ i, (fl p i).length = cntp p i
  | 0 => rfl
  | i + 1 => by
    rw [fl, cntp, List.length_append, fl_len p i]
    split <;> rfl
theorem atOf_app (l x : List Int) (v : Int) : ∀ k, k ≤ l.length → atOf (l ++ x) v k = atOf l v k
  | 0, _ => rfl
  | k + 1, h => by rw [atOf, atOf, ofL_app _ _ _ h, atOf_app l x v k (by omega)]
theorem atOf_fl (p : Nat → Bool) (x : Nat) : ∀ i, atOf (fl p i) (x : Int) (cntp p i) = if x < i ∧ p x = true then (cntp p x : Int) else -1
  | 0 => by rw [if_neg (fun q => absurd q.1 (Nat.not_lt_zero _))]; rfl
  | i + 1 => by
    have ih := atOf_fl p x i
    cases hp : p i with
    | false =>
      have e1 : fl p (i + 1) = fl p i := by rw [fl, hp]; simp
      have e2 : cntp p (i + 1) = cntp p i := by rw [cntp, hp]; rfl
      rw [e1, e2, ih]
      by_cases q : x < i ∧ p x = true
      · rw [if_pos q, if_pos ⟨by omega, q.2⟩]
      · rw [if_neg q, if_neg]
        rintro ⟨a, b⟩
        by_cases e : x = i
        · subst e; rw [hp] at b; cases b
        · exact q ⟨by omega, b⟩
    | true =>
      have e1 : fl p (i + 1) = fl p i ++ [(i : Int)] := by rw [fl, hp]; rfl
      have e2 : cntp p (i + 1) = cntp p i + 1 := by rw [cntp, hp]; rfl
      have e3 : ofL (fl p i ++ [(i : Int)]) (cntp p i) = (i : Int) := by
        rw [ofL_app' _ _ _ (by rw [fl_len]; exact Nat.le_refl _), fl_len, Nat.sub_self]; rfl
      rw [e1, e2, atOf, e3, atOf_app _ _ _ _ (by rw [fl_len]; exact Nat.le_refl _), ih]
      by_cases e : i = x
      · subst e
        rw [if_pos rfl, if_pos ⟨by omega, hp⟩]
      · rw [if_neg (by omega)]
        by_cases q : x < i ∧ p x = true
        · rw [if_pos q, if_pos ⟨by omega, q.2⟩]
        · rw [if_neg q, if_neg (fun r => q ⟨by omega, r.2⟩)]
/-- what tops are -/
structure Tops (fx : Nat → Bool) (L : Nat → Nat) : Prop where
  le : ∀ j, L j ≤ j
  idem : ∀ j, L (L j) = L j
  fx : ∀ j, fx (L j) = fx j
theorem Tops.fst {fx : Nat → Bool} {L : Nat → Nat} (h : Tops fx L) {j : Nat} (hj : fx j = false) : fstB fx L (L j) = true := by
  unfold fstB; rw [h.fx, hj, decide_eq_true (h.idem j)]; rfl
theorem numS_eq {U G : Nat → Int} {L : Nat → Nat} {n : Nat} (hT : Tops (fxU U) L) (hG : ∀ j, j < n → G j = (L j : Int)) : ∀ i, i ≤ n → (numS U G i).2 = fl (fstB (fxU U) L) i ∧ ∀ j, j < i → ofL (numS U G i).1 j = gnum (fxU U) L j
  | 0, _ => ⟨rfl, fun j h => absurd h (Nat.not_lt_zero _)⟩
  | i + 1, hi => by
    obtain ⟨ih1, ih2⟩ := numS_eq hT hG i (by omega)
    obtain ⟨hl, -⟩ := numS_len U G i
    have fin : ∀ (v : Int) (j : Nat), v = gnum (fxU U) L i → j < i + 1 → ofL ((numS U G i).1 ++ [v]) j = gnum (fxU U) L j := fun v j hv hj => by
      by_cases e : j < i
      · rw [ofL_app _ _ _ (by omega)]; exact ih2 j e
      · obtain rfl : j = i := by omega
        rw [ofL_app' _ _ _ (by omega), hl, Nat.sub_self]
        exact hv
    by_cases hu : U (i * 12 + 8) = 0
    · have hf : fxU U i = true := decide_eq_true hu
      have hb : fstB (fxU U) L i = false := by unfold fstB; rw [hf]; rfl
      rw [numS_z hu, fl, hb]
      exact ⟨by rw [ih1]; simp, fun j hj => fin _ j (by unfold gnum; rw [if_pos hf]) hj⟩
    · have hf : fxU U i = false := decide_eq_false hu
      have ha : atOf (numS U G i).2 (G i) (numS U G i).2.length = if L i < i ∧ fstB (fxU U) L (L i) = true then (cntp (fstB (fxU U) L) (L i) : Int) else -1 := by
        rw [ih1, fl_len, hG i (by omega), atOf_fl]
      have hle := hT.le i
      by_cases e : L i = i
      · rw [if_neg (by omega)] at ha
        have hb : fstB (fxU U) L i = true := by unfold fstB; rw [hf, decide_eq_true e]; rfl
        rw [numS_n hu (by rw [ha]; decide), fl, hb]
        refine ⟨by rw [ih1, hG i (by omega), e]; rfl, fun j hj => fin _ j ?_ hj⟩
        unfold gnum
        rw [if_neg (by rw [hf]; simp), e, ih1, fl_len]
      · rw [if_pos ⟨by omega, hT.fst hf⟩] at ha
        have hb : fstB (fxU U) L i = false := by unfold fstB; rw [decide_eq_false e]; simp
        rw [numS_o hu (by rw [ha]; omega), fl, hb]
        refine ⟨by rw [ih1]; simp, fun j hj => fin _ j ?_ hj⟩
        unfold gnum
        rw [if_neg (by rw [hf]; simp), ha]
theorem lab_tops (U C : Nat → Int) (m : Nat) : Tops (fxU U) (lab (edg U C) m) := by
  refine ⟨lab_le _ m, lab_idem _ m, fun j => ?_⟩
  have h := lab_set (edg U C) (fun j => U (j * 12 + 8) = 0) m (fun i A B _ e => by
    unfold edg at e
    split at e
    · rename_i q
      simp only [Option.some.injEq, Prod.mk.injEq] at e
      obtain ⟨rfl, rfl⟩ := e
      exact ⟨fun x => absurd x q.1, fun x => absurd x q.2⟩
    · cases e) j
  unfold fxU
  exact decide_eq_decide.2 h
theorem grpL_len (U C : Nat → Int) (m n : Nat) : (grpL U C m n).length = n := by unfold grpL; exact (numS_len _ _ n).1
theorem grpL_eq {U C : Nat → Int} {n m : Nat} (hC : CtOk n m C) : ∀ j, j < n → ofL (grpL U C m n) j = gnum (fxU U) (lab (edg U C) m) j := by
  have hE : ∀ i A B, i < m → edg U C i = some (A, B) → A < n ∧ B < n := fun i A B hi e => by
    have ha := hC.a i hi
    have hb := hC.b i hi
    unfold edg at e
    split at e
    · simp only [Option.some.injEq, Prod.mk.injEq] at e
      obtain ⟨rfl, rfl⟩ := e
      omega
    · cases e
  exact (numS_eq (lab_tops U C m) (fun j hj => by rw [grpR_eq hC n j hj, rnds_lab _ m n hE j hj]) n (Nat.le_refl _)).2
/-- the numbers behind so many groups -/
def vnum (fx : Nat → Bool) (L : Nat → Nat) (k j : Nat) : Int := if fx j = false ∧ cntp (fstB fx L) (L j) < k then (cntp (fstB fx L) (L j) : Int) else -1
theorem cntp_inj (p : Nat → Bool) {i j : Nat} (hi : p i = true) (hj : p j = true) (h : cntp p i = cntp p j) : i = j := by
  rcases Nat.lt_trichotomy i j with q | q | q
  · have := cntp_in p q hi; omega
  · exact q
  · have := cntp_in p q hj; omega
theorem vnum_0 (fx : Nat → Bool) (L : Nat → Nat) (j : Nat) : vnum fx L 0 j = -1 := if_neg (fun q => absurd q.2 (Nat.not_lt_zero _))
theorem vnum_in {fx : Nat → Bool} {L : Nat → Nat} (hT : Tops fx L) {i k j : Nat} (hf : fstB fx L i = true) (hk : cntp (fstB fx L) i = k) (hj : L j = i) : vnum fx L (k + 1) j = (k : Int) := by
  have hx : fx j = false := by
    rw [← hT.fx, hj]
    unfold fstB at hf
    cases h : fx i with
    | false => rfl
    | true => rw [h] at hf; cases hf
  unfold vnum
  rw [if_pos ⟨hx, by rw [hj, hk]; omega⟩, hj, hk]
theorem vnum_out {fx : Nat → Bool} {L : Nat → Nat} (hT : Tops fx L) {i k j : Nat} (hf : fstB fx L i = true) (hk : cntp (fstB fx L) i = k) (hj : ¬ L j = i) : vnum fx L (k + 1) j = vnum fx L k j := by
  unfold vnum
  by_cases h : fx j = false ∧ cntp (fstB fx L) (L j) < k
  · rw [if_pos h, if_pos ⟨h.1, by omega⟩]
  · rw [if_neg h, if_neg]
    rintro ⟨a, b⟩
    refine hj (cntp_inj _ (hT.fst a) hf ?_)
    have : ¬ cntp (fstB fx L) (L j) < k := fun q => h ⟨a, q⟩
    omega
theorem vnum_all {fx : Nat → Bool} {L : Nat → Nat} (hT : Tops fx L) {n j : Nat} (hj : j < n) : vnum fx L (cntp (fstB fx L) n) j = gnum fx L j := by
  unfold vnum gnum
  cases h : fx j with
  | true => rw [if_neg (fun q => by cases q.1), if_pos rfl]
  | false =>
    have := hT.le j
    rw [if_pos ⟨rfl, cntp_in _ (by omega) (hT.fst h)⟩, if_neg (by simp)]
theorem memL_mem (L : Nat → Nat) (i : Nat) : ∀ n j, j ∈ memL L i n ↔ j < n ∧ L j = i
  | 0, j => by simp [memL]
  | n + 1, j => by
    rw [memL, List.mem_append, memL_mem L i n j]
    by_cases h : L n = i
    · rw [if_pos h, List.mem_singleton]
      constructor
      · rintro (⟨a, b⟩ | rfl)
        · exact ⟨by omega, b⟩
        · exact ⟨by omega, h⟩
      · rintro ⟨a, b⟩
        by_cases e : j = n
        · exact .inr e
        · exact .inl ⟨by omega, b⟩
    · rw [if_neg h]
      constructor
      · rintro (⟨a, b⟩ | h)
        · exact ⟨by omega, b⟩
        · cases h
      · rintro ⟨a, b⟩
        by_cases e : j = n
        · subst e; exact absurd b h
        · exact .inl ⟨by omega, b⟩
end Go.Proofs.YtlbpmmjckoaleaaGreat
namespace Go.Proofs.YtlbpmmjckoaleaaGreat
open Go.RowKit
set_option linter.unusedVariables false
set_option linter.unusedSimpArgs false
theorem HL.some {w : World} {base cb : Nat} {v : Value} {l : List Nat} (h : HL w base cb v l) (hl : 0 < l.length) : ∃ g c : Nat, v = .slice (some ⟨g, 0, none⟩) l.length c ∧ base ≤ g ∧ g < w.heap.size := by
  rcases h.2 with ⟨_, e⟩ | ⟨g, cap, cur, hv, hb, _⟩
  · omega
  · exact ⟨g, cap, hv, hb, (h.lt g (by rw [hv]; rfl)).2⟩
theorem LV.blk {w wr w' : World} {t g cap n : Nat} {xs : List Value} (h : LV w wr t g cap n xs) (hb : Below w.heap.size wr w') (e : w'.heap[g]? = wr.heap[g]?) : LV w w' t g cap n xs := by
  refine ⟨h.bel.trans hb, h.len, h.own.1, ?_⟩
  rcases h.own.2 with ⟨q, _⟩ | ⟨g', cap', cur, hv, hb', hg, rest⟩
  · cases q
  · cases hv
    exact .inr ⟨g, cap, cur, rfl, hb', e.trans hg, rest⟩
theorem LV.sm {w wr w' : World} {B t g cap n : Nat} {xs : List Value} (h : LV w wr t g cap n xs) (hs : Sm B wr w') (hB : w.heap.size ≤ B) : LV w w' t g cap n xs := by
  refine h.blk (hs.below.mono hB) ?_
  rcases h.own.2 with ⟨q, _⟩ | ⟨g', cap', cur, hv, hb', hg, rest⟩
  · cases q
  · cases hv
    exact (hs.cells _ _ hg rfl).trans hg.symm
theorem LV.made (w : World) (t n : Nat) (hn : n ≤ maxLen) : LV w (w.alloc (.cells (madeCells #[.int .i64 0] n) t)) t w.heap.size n n (IV (List.replicate n 0)) := by
  have e : (madeCells #[Value.int .i64 0] n).toList = IV (List.replicate n 0) := by
    unfold madeCells IV
    apply List.ext_getElem?
    intro j
    by_cases h : j < n
    · simp [h, Nat.mod_one]
    · simp [h]
  refine ⟨(Below.refl _ _).alloc (Nat.le_refl _) _, by rw [IV_len, List.length_replicate], by rw [IV_len, List.length_replicate, Nat.mul_one], .inr ⟨w.heap.size, n, _, rfl, Nat.le_refl _, Go.Deep.blk_alloc_new _ _, Nat.le_refl _, hn, by rw [size_madeCells, Nat.mul_one], ?_⟩⟩
  rw [e, Nat.mul_one, List.take_of_length_le (by rw [IV_len, List.length_replicate]; exact Nat.le_refl _)]
/-- a list of numbers in a variable -/
structure Nr (w A : World) (g lb n : Nat) (l : List Int) : Prop where
  lv : LV w A 3 g n n (IV l)
  box : A.cell? ⟨lb, 0, none⟩ = some (.slice (some ⟨g, 0, none⟩) n n)
  lo : w.heap.size ≤ lb
  ne : lb ≠ g
section
variable {w A A' : World} {g lb n : Nat} {l : List Int}
theorem Nr.lt (h : Nr w A g lb n l) : lb < A.heap.size := cell_lt (a := ⟨lb, 0, none⟩) h.box
theorem Nr.len (h : Nr w A g lb n l) : l.length = n := by have := h.lv.len; rwa [IV_len] at this
theorem Nr.blk (h : Nr w A g lb n l) (hb : Below w.heap.size A A') (e1 : A'.heap[g]? = A.heap[g]?) (e2 : A'.heap[lb]? = A.heap[lb]?) : Nr w A' g lb n l :=
  ⟨h.lv.blk hb e1, (World.cell?_of_block (w := A) (a := ⟨lb, 0, none⟩) e2).trans h.box, h.lo, h.ne⟩
theorem Nr.below {B : Nat} (h : Nr w A g lb n l) (hb : Below B A A') (hB : w.heap.size ≤ B) (h1 : g < B) (h2 : lb < B) : Nr w A' g lb n l := h.blk (hb.mono hB) (hb.block g h1) (hb.block lb h2)
theorem Nr.on (h : Nr w A g lb n l) (hb : Below A.heap.size A A') : Nr w A' g lb n l := h.below hb h.lv.bel.size h.lv.lt.2 h.lt
theorem Nr.sm {B : Nat} (h : Nr w A g lb n l) (hs : Sm B A A') (hB : w.heap.size ≤ B) : Nr w A' g lb n l := ⟨h.lv.sm hs hB, hs.cell h.box, h.lo, h.ne⟩
theorem Nr.set (h : Nr w A g lb n l) (j : Nat) (x : Int) : Nr w (A.setCell ⟨g, j, none⟩ (.int .i64 x)) g lb n (l.set j x) :=
  ⟨by rw [← IV_set]; exact h.lv.set j _, by rw [cset_far (by simp; exact h.ne)]; exact h.box, h.lo, h.ne⟩
end
theorem list_eq {l m : List Int} {n : Nat} (h1 : l.length = n) (h2 : m.length = n) (h : ∀ j, j < n → ofL l j = ofL m j) : l = m := by
  apply List.ext_getElem (by rw [h1, h2])
  intro j hj hj'
  have := h j (by omega)
  unfold ofL at this
  rw [List.getD_eq_getElem?_getD, List.getD_eq_getElem?_getD, List.getElem?_eq_getElem hj, List.getElem?_eq_getElem hj'] at this
  exact this
theorem numbered_step {l : List Int} {n k r : Nat} {ms : List Nat} {q : Nat} {V : Nat → Int} (hl : l.length = n) (hq : q < ms.length) (hr : ms[q] = r) (hrn : r < n) (h : ∀ j, j < n → ofL l j = if j ∈ ms.take q then (k : Int) else V j) : ∀ j, j < n → ofL (l.set r (k : Int)) j = if j ∈ ms.take (q + 1) then (k : Int) else V j := by
  intro j hj
  rw [ofL_set _ _ _ _ (by omega), List.take_succ_eq_append_getElem hq, hr]
  by_cases e : j = r
  · rw [if_pos e, if_pos (by rw [List.mem_append, List.mem_singleton]; exact .inr e)]
  · rw [if_neg e, h j hj]
    by_cases e2 : j ∈ ms.take q
    · rw [if_pos e2, if_pos (List.mem_append.2 (.inl e2))]
    · rw [if_neg e2, if_neg (by rw [List.mem_append, List.mem_singleton]; exact fun x => x.elim e2 e)]
section
attribute [local go_sem] Oper.semAt_some
set_option maxRecDepth 20000 in
set_option maxHeartbeats 8000000 in
theorem numbered_any (cb n : Nat) (U : Nat → Int) (S : Nat → Value) (M : Nat) (w : World) (hC : Cs w cb n (colOf U) S) (hn : n ≤ 12) (hM : (conL (colOf U) n).length = M * 5) (hMk : M ≤ 1000) :
    Calls Tryz.prog 28 #[.pointer (some ⟨cb, 0, none⟩)] w fun e w' => ∃ g : Nat, e = .returned (.slice (some ⟨g, 0, none⟩) n n) ∧ LV w w' 3 g n n (IV (grpL U (ofL (conL (colOf U) n)) M n)) := by
  have hset := cset_map
  have hCt := con_ct (colOf U) hM
  obtain ⟨L, hL⟩ : ∃ L, lab (edg U (ofL (conL (colOf U) n))) M = L := ⟨_, rfl⟩
  have hT : Shut (Tops (fxU U) L) := hL ▸ lab_tops U _ M
  have hE := grpL_eq (U := U) hCt
  rw [hL] at hE
  have hEl := grpL_len U (ofL (conL (colOf U) n)) M n
  have hGr : ∀ w1, Below w.heap.size w w1 → ItG Tryz.prog 31 #[.pointer (some ⟨cb, 0, none⟩)] (ColF cb n (fxU U)) (GrE cb n (fxU U) L) (cntp (fstB (fxU U) L) n) w1 := fun w1 hb => groups_any cb n U S M w1 (hC.below hb) hn hM hMk L (fun j => by rw [← hL]) (fxU U)
  have hCo : ∀ w1, Below w.heap.size w w1 → ColF cb n (fxU U) w1 := fun w1 hb => ⟨_, _, hC.below hb, fun j _ => rfl⟩
  generalize grpL U (ofL (conL (colOf U) n)) M n = R at hE hEl ⊢
  clear hL hM hMk hCt
  have hmk : ∀ w, (Instr.makeSlice 24 (.int .i64 (n : Int)) (.int .i64 (n : Int))).run Tryz.prog w = .ok (.slice (some ⟨w.heap.size, 0, none⟩) n n) (w.alloc (.cells (madeCells #[.int .i64 0] n) 3)) := fun w => by have q := make_rows (P := Tryz.prog) 24 3 (.int .i64 0) 1 8 Tryz.underlying24 (by kernel_rfl) .i64 .i64 n (by omega) (by omega) w; rw [Nat.mul_one] at q; exact q
  obtain ⟨ad, cc, hS0⟩ := (hC.own 0 (by omega)).is
  have hd0 := hC.hd 0 (by omega)
  rw [hS0] at hd0
  have hN0 : Nr w ((w.alloc (.cells (madeCells #[.int .i64 0] n) 3)).alloc (Obj.cells #[.slice (some ⟨w.heap.size, 0, none⟩) n n] 24)) w.heap.size (w.heap.size + 1) n (List.replicate n 0) :=
    ⟨(LV.made w 3 n (by unfold maxLen; omega)).on ((Below.refl _ _).alloc (Nat.le_refl _) _), by go_simp, by omega, by omega⟩
  refine calls_of_wp_marks Tryz.func28 rfl ?_
  simp only [Tryz.ntmps28, List.size_toArray, List.length_cons, List.length_nil, Nat.reduceAdd, Nat.reduceSub, Array.replicate_succ, Array.replicate_zero, List.push_toArray, List.append_toArray, List.nil_append, List.cons_append]
  go_upto_region 3 with fail
  clear hmk hd0 hS0
  generalize ((w.alloc (.cells (madeCells #[.int .i64 0] n) 3)).alloc (Obj.cells #[.slice (some ⟨w.heap.size, 0, none⟩) n n] 24)) = w2 at hN0 ⊢
  generalize hlb : w.heap.size + 1 = lb at hN0 ⊢
  clear hlb
  generalize w.heap.size = g at hN0 ⊢
  go_loopw [17] (fun s wr => ∃ (k : Nat) (l : List Int), k ≤ n ∧ s = .int .i64 (k : Int) ∧ Nr w wr g lb n l ∧ ∀ j, j < k → ofL l j = -1) (fun s _ => n - (intOf s).toNat)
  case atStart => exact ⟨0, _, Nat.zero_le _, rfl, hN0, fun j h => absurd h (Nat.not_lt_zero _)⟩
  case round =>
    clear hN0
    obtain ⟨k, l, hk, rfl, hN, hl⟩ := hrel
    have u0 := hN.box
    by_cases hlt : k < n
    · have hkn : (k : Int) < (n : Int) := by omega
      have uk := hN.lv.ic hlt
      have uf := hN.lv.fro k
      have hN2 := hN.set k (-1)
      have hlen := hN.len
      go_wp2_with fail
      go_roundw
      case rel =>
        refine ⟨k + 1, _, by omega, by go_num, hN2, fun j hj => ?_⟩
        rw [ofL_set _ _ _ _ (by omega)]
        split
        · rfl
        · exact hl j (by omega)
      case measure => simp [intOf]; omega
    · obtain rfl : n = k := by omega
      go_wp2
      have hbr := hN.lv.bel
      have hbz := hbr.size
      have hgl := hN.lv.lt.2
      have hll := hN.lt
      refine wp_range_outG (gf := 31) (bound := #[.pointer (some ⟨cb, 0, none⟩)]) rfl groups_enters (hGr wr hbr) (fun H k args A hE => by obtain ⟨i, v, _, _, _, rfl, _⟩ := hE; rfl)
        (fun H k A => wr.heap.size ≤ H ∧ ∃ l, Nr w A g lb n l ∧ ∀ j, j < n → ofL l j = vnum (fxU U) L k j) ?hI ?hIs ?hcol ?h0 ?round ?done
      case hI => rintro H k A B' ⟨h0, l', h1, h2⟩ hk; exact ⟨h0, l', h1.below hk.below (by omega) (by omega) (by omega), h2⟩
      case hIs => rintro H k A B' ⟨h0, l', h1, h2⟩ hs; exact ⟨h0, l', h1.sm hs hbr.size, h2⟩
      case hcol => rintro H k A ⟨_, l', h1, h2⟩; exact hCo A h1.lv.bel
      case h0 => intro W0 hb hz; exact ⟨by omega, l, hN.on hb, fun j hj => by rw [hl j hj, vnum_0]⟩
      case done =>
        rintro D H W hD ⟨_, l', h1, h2⟩ hK
        have hbx := h1.box
        have hres : l' = R := list_eq h1.len hEl (fun j hj => by rw [h2 j hj, vnum_all hT.out hj, hE j hj])
        subst hres
        go_wp2
        refine marks_ret (B := w.heap.size) (by omega) rfl hK fun W' hS => ⟨.slice (some ⟨g, 0, none⟩) n n, ?_, g, rfl, h1.lv.sm hS (Nat.le_refl _)⟩
        simp [results, Tryz.results28, go_sem, *]
      case round =>
        rintro lr H kk W args hlr1 hlr2 hWz ⟨hHz, l', hN1, hv1⟩ hkk ⟨i, v, hi, hfi, hck, rfl, hHL⟩
        clear hGr hN hl u0 hE hEl hlt hk hkk hCo
        have hLi : L i = i := by unfold fstB at hfi; exact of_decide_eq_true (by simp at hfi; exact decide_eq_true hfi.2)
        have hmm := memL_mem L i n
        have hml := memL_le L i n
        have hm0 : 0 < (memL L i n).length := List.length_pos_of_mem ((hmm i).2 ⟨hi, hLi⟩)
        have hvv : Shut (∀ j, j < n → vnum (fxU U) L (kk + 1) j = if j ∈ memL L i n then (kk : Int) else vnum (fxU U) L kk j) := fun j hj => by
          by_cases e : L j = i
          · rw [if_pos ((hmm j).2 ⟨hj, e⟩)]; exact vnum_in hT.out hfi hck e
          · rw [if_neg (fun q => e ((hmm j).1 q).2)]; exact vnum_out hT.out hfi hck e
        generalize memL L i n = ms at hmm hml hm0 hvv hHL ⊢
        obtain ⟨mg, mc, rfl, hmg, hmg2⟩ := hHL.some hm0
        simp only [List.zip_toArray, List.zip_cons_cons, List.zip_nil_left, List.foldl_toArray, List.foldl_cons, List.foldl_nil, List.setIfInBounds_toArray, List.set_cons_succ, List.set_cons_zero]
        refine wpIn_seq_k fun K1 hK1 => ?_
        refine wpIn_region_plain (by rintro ⟨_, _, h⟩; exact h) (by kernel_rfl) ?_
        go_wp2
        refine wpIn_region_plain (by rintro ⟨_, _, h⟩; exact h) (by kernel_rfl) ?_
        go_wp2
        refine ⟨KeepsFrom.refl _ _, fun W2 hS hKc hr => ?_⟩
        have hN2 := hN1.sm hS hbr.size
        have hHL2 := hHL.sm hS
        have hKc2 : Kc (wr.heap.size + 2) H W W2 := hKc _ _ hlr2
        have hz2 := hS.size
        clear hN1 hHL hKc hS hr hmg2
        refine wpIn_block ?_
        gi_wp2
        gi_loopw [30] (fun s wx => ∃ (q : Nat) (l2 : List Int), q ≤ ms.length ∧ s = .int .i64 (q : Int) ∧ Nr w wx g lb n l2 ∧ (∀ j, j < n → ofL l2 j = if j ∈ ms.take q then (kk : Int) else vnum (fxU U) L kk j) ∧ HL wx H cb (.slice (some ⟨mg, 0, none⟩) ms.length mc) ms ∧ Fr (fun b => b = g) W2 wx) (fun s _ => ms.length - (intOf s).toNat)
        case atStart => exact ⟨0, l', Nat.zero_le _, rfl, hN2, fun j hj => by rw [hv1 j hj, List.take_zero, if_neg (by simp)], hHL2, Fr.refl _ _⟩
        case round =>
          obtain ⟨q, l2, hq, rfl, hN3, hv3, hHL3, hF3⟩ := hrel
          clear hN2 hHL2
          by_cases hq2 : q < ms.length
          · obtain ⟨c0, c1⟩ := hHL3.cells hq2
            obtain ⟨r, hr⟩ : ∃ r, ms[q] = r := ⟨_, rfl⟩
            rw [hr] at c0
            have hrn : r < n := ((hmm r).1 (hr ▸ List.getElem_mem hq2)).1
            have b0 := hN3.box
            have rk := hN3.lv.ic hrn
            have rf := hN3.lv.fro r
            have hg3 := hN3.lv.lt.2
            have hl3 := hN3.lt
            have hqi : (q : Int) < (ms.length : Int) := by omega
            have hri : (r : Int) < (n : Int) := by omega
            gi_wp2
            go_roundw
            case rel =>
              have hE1 : Below (wr.setCell ⟨g, r, none⟩ (.int .i64 (kk : Int))).heap.size (wr.setCell ⟨g, r, none⟩ (.int .i64 (kk : Int))) ((wr.setCell ⟨g, r, none⟩ (.int .i64 (kk : Int))).alloc (Obj.cells #[.int .i64 (r : Int), .pointer (some ⟨cb, 0, none⟩)] 80)) := (Below.refl _ _).alloc (Nat.le_refl _) _
              have hF1 : Fr (fun b => b = g) wr (wr.setCell ⟨g, r, none⟩ (.int .i64 (kk : Int))) := Fr.setCell (X := fun b => b = g) (p := ⟨g, r, none⟩) rfl _
              refine ⟨q + 1, _, by omega, by go_num, (hN3.set r (kk : Int)).on hE1, numbered_step hN3.len hq2 hr hrn hv3, ?_, (hF3.trans hF1).trans (Fr.of_below hE1)⟩
              exact (hHL3.frame hF1 (fun b e q => by simp only [Value.ownBlock, Option.some.injEq] at e; omega)).below hE1
            case measure => simp [intOf]; omega
          · obtain rfl : q = ms.length := by omega
            gi_wp2
            refine ⟨hF3.keeps _, ⟨hHz, l2, hN3, fun j hj => ?_⟩, hKc2.trans (Kc.fr hF3 (fun b e => .inl (by omega)))⟩
            rw [hvv.out j hj, hv3 j hj, List.take_length]
end
end Go.Proofs.YtlbpmmjckoaleaaGreat
namespace Go.Proofs.YtlbpmmjckoaleaaGreat
open Go.RowKit
set_option linter.unusedVariables false
set_option linter.unusedSimpArgs false

set_option maxRecDepth 20000 in
set_option maxHeartbeats 4000000 in
theorem sBodiesOk_any (a : Option Addr) (n c : Nat) (U : Nat → Int) (w : World) (h : Flat w a (n * 12) U) (hn : n ≤ 1048576) :
    Calls Tryz.prog 23 #[.slice a n c] w fun e w' => e = .returned (.bool (bodsB n U)) ∧ Below w.heap.size w w' := by
  have hset := cset_map
  go_enter Tryz.func23, Tryz.ntmps23
  go_wp2
  go_loopw [3] (fun i wr => ∃ k : Nat, k ≤ n ∧ i = .int .i64 (k : Int) ∧ Below w.heap.size w wr ∧ allBB U k = true) (fun i _ => n - (intOf i).toNat)
  case atStart => exact ⟨0, Nat.zero_le _, rfl, Below.refl _ _, rfl⟩
  case round =>
      obtain ⟨k, hk, rfl, hB, hall0⟩ := hrel
      have hall : Shut (allBB U k = true) := hall0
      clear hall0
      by_cases hlt : k < n
      · have hkn : (k : Int) < (n : Int) := by omega
        obtain ⟨b, o, rfl, hbl, hc⟩ := (h.below hB) (by omega)
        have c0 := hc (k * 12) (by omega)
        have c1 := hc (k * 12 + 1) (by omega)
        have c2 := hc (k * 12 + 2) (by omega)
        have c3 := hc (k * 12 + 3) (by omega)
        have c4 := hc (k * 12 + 4) (by omega)
        have c5 := hc (k * 12 + 5) (by omega)
        have c6 := hc (k * 12 + 6) (by omega)
        have c7 := hc (k * 12 + 7) (by omega)
        have c8 := hc (k * 12 + 8) (by omega)
        have c9 := hc (k * 12 + 9) (by omega)
        have c10 := hc (k * 12 + 10) (by omega)
        have c11 := hc (k * 12 + 11) (by omega)
        simp only [← Nat.add_assoc] at c0 c1 c2 c3 c4 c5 c6 c7 c8 c9 c10 c11
        go_upto_region 4 with fail
        cases hi : bodyB (fun j => U (k * 12 + j)) with
        | false =>
          have hno : Shut (stepBB U k = false) := by show stepBB U k = false; rw [stepBB, hi]; rfl
          clear hc
          refine wp_region_held_drew (S := fun w' => w'.cell? ⟨b, o + k * 12, none⟩ = some (.int .i64 (U (k * 12))) ∧ w'.cell? ⟨b, o + k * 12 + 1, none⟩ = some (.int .i64 (U (k * 12 + 1))) ∧ w'.cell? ⟨b, o + k * 12 + 2, none⟩ = some (.int .i64 (U (k * 12 + 2))) ∧ w'.cell? ⟨b, o + k * 12 + 3, none⟩ = some (.int .i64 (U (k * 12 + 3))) ∧ w'.cell? ⟨b, o + k * 12 + 4, none⟩ = some (.int .i64 (U (k * 12 + 4))) ∧ w'.cell? ⟨b, o + k * 12 + 5, none⟩ = some (.int .i64 (U (k * 12 + 5))) ∧ w'.cell? ⟨b, o + k * 12 + 6, none⟩ = some (.int .i64 (U (k * 12 + 6))) ∧ w'.cell? ⟨b, o + k * 12 + 7, none⟩ = some (.int .i64 (U (k * 12 + 7))) ∧ w'.cell? ⟨b, o + k * 12 + 8, none⟩ = some (.int .i64 (U (k * 12 + 8))) ∧ w'.cell? ⟨b, o + k * 12 + 9, none⟩ = some (.int .i64 (U (k * 12 + 9))) ∧ w'.cell? ⟨b, o + k * 12 + 10, none⟩ = some (.int .i64 (U (k * 12 + 10))) ∧ w'.cell? ⟨b, o + k * 12 + 11, none⟩ = some (.int .i64 (U (k * 12 + 11)))) (by kernel_rfl) ?_ (fun hHeld => ?_)
          · (try dsimp only)
            (first | (go_simp; done) | (go_keep; done))
          refine tq 0 hHeld ?_
          refine tq 1 hHeld ?_
          refine tq 2 hHeld ?_
          refine tq 3 hHeld ?_
          (refine tc 4 fun K hK => ?_; go_simp; (go_at_call 35; refine (sBodyOk_q (fun j => U (k * 12 + j)) _ _ (by exact hi)).mono ?_; rintro e w2 ⟨rfl, hb2⟩; obtain ⟨hc2, hf2⟩ := bcell hb2; have hz2 := hb2.size; (try simp only [World.size_drew, World.size_alloc, World.size_setCell] at hc2 hf2 hz2); have hk3 := fun o => hc2 b o (by omega); clear hc2 hf2); (try go_wp2_with fail); refine tr hK (fun hHeld => ?_); clear hK K)
          refine tq 5 hHeld ?_
          refine tq 6 hHeld ?_
          refine tn 7 hHeld ?_
          refine tn 8 hHeld ?_
          refine tn 9 hHeld ?_
          refine tn 10 hHeld ?_
          refine tn 11 hHeld ?_
          refine tn 12 hHeld ?_
          refine tn 13 hHeld ?_
          refine tn 14 hHeld ?_
          refine tn 15 hHeld ?_
          refine tn 16 hHeld ?_
          refine tn 17 hHeld ?_
          refine tn 18 hHeld ?_
          refine tn 19 hHeld ?_
          refine tn 20 hHeld ?_
          refine tn 21 hHeld ?_
          refine tn 22 hHeld ?_
          refine tq 23 hHeld ?_
          refine wpAnyH_done (by kernel_rfl) ?_ _
          go_wp2_with fail
          go_ret
          exact ⟨by rw [bodsB, allBB_no hno.out n hlt, Bool.and_false]; rfl, hB.trans (hb2.ofDr.mono hB.size)⟩
        | true =>
          by_cases hk0 : 0 < k
          · have hd0 : decide (0 < k) = true := decide_eq_true hk0
            obtain ⟨j, hj⟩ : ∃ j, j + 1 = k := ⟨k - 1, by omega⟩
            have hj' : (k : Int) - 1 = (j : Int) := by omega
            have hjn : j < n := by omega
            have hwj : IntKind.i64.wrap (j : Int) = (j : Int) := i64w (by omega)
            have HJ : Shut (j + 1 = k) := hj
            clear hj
            have p0 := hc (j * 12) (by omega)
            clear hc
            by_cases hge : U (j * 12) < U (k * 12)
            · have hdg : decide (U (k * 12) ≤ U (j * 12)) = false := decide_eq_false (by omega)
              have hyes : Shut (stepBB U k = true) := by show stepBB U k = true; rw [stepBB, hi, show k - 1 = j from by have := HJ.out; omega]; simp [hge]
              refine wp_region_held_drew (S := fun w' => w'.cell? ⟨b, o + k * 12, none⟩ = some (.int .i64 (U (k * 12))) ∧ w'.cell? ⟨b, o + k * 12 + 1, none⟩ = some (.int .i64 (U (k * 12 + 1))) ∧ w'.cell? ⟨b, o + k * 12 + 2, none⟩ = some (.int .i64 (U (k * 12 + 2))) ∧ w'.cell? ⟨b, o + k * 12 + 3, none⟩ = some (.int .i64 (U (k * 12 + 3))) ∧ w'.cell? ⟨b, o + k * 12 + 4, none⟩ = some (.int .i64 (U (k * 12 + 4))) ∧ w'.cell? ⟨b, o + k * 12 + 5, none⟩ = some (.int .i64 (U (k * 12 + 5))) ∧ w'.cell? ⟨b, o + k * 12 + 6, none⟩ = some (.int .i64 (U (k * 12 + 6))) ∧ w'.cell? ⟨b, o + k * 12 + 7, none⟩ = some (.int .i64 (U (k * 12 + 7))) ∧ w'.cell? ⟨b, o + k * 12 + 8, none⟩ = some (.int .i64 (U (k * 12 + 8))) ∧ w'.cell? ⟨b, o + k * 12 + 9, none⟩ = some (.int .i64 (U (k * 12 + 9))) ∧ w'.cell? ⟨b, o + k * 12 + 10, none⟩ = some (.int .i64 (U (k * 12 + 10))) ∧ w'.cell? ⟨b, o + k * 12 + 11, none⟩ = some (.int .i64 (U (k * 12 + 11))) ∧ w'.cell? ⟨b, o + j * 12, none⟩ = some (.int .i64 (U (j * 12)))) (by kernel_rfl) ?_ (fun hHeld => ?_)
              · (try dsimp only)
                (first | (go_simp; done) | (go_keep; done))
              refine tq 0 hHeld ?_
              refine tq 1 hHeld ?_
              refine tq 2 hHeld ?_
              refine tq 3 hHeld ?_
              (refine tc 4 fun K hK => ?_; go_simp; (go_at_call 35; refine (sBodyOk_q (fun j => U (k * 12 + j)) _ _ (by exact hi)).mono ?_; rintro e w2 ⟨rfl, hb2⟩; obtain ⟨hc2, hf2⟩ := bcell hb2; have hz2 := hb2.size; (try simp only [World.size_drew, World.size_alloc, World.size_setCell] at hc2 hf2 hz2); have hk3 := fun o => hc2 b o (by omega); clear hc2 hf2); (try go_wp2_with fail); refine tr hK (fun hHeld => ?_); clear hK K)
              refine tq 5 hHeld ?_
              refine tq 6 hHeld ?_
              refine tq 7 hHeld ?_
              refine tq 8 hHeld ?_
              refine tq 9 hHeld ?_
              refine tq 10 hHeld ?_
              refine tq 11 hHeld ?_
              refine tq 12 hHeld ?_
              refine tq 13 hHeld ?_
              refine tq 14 hHeld ?_
              refine tq 15 hHeld ?_
              refine tq 16 hHeld ?_
              refine tq 17 hHeld ?_
              refine tq 18 hHeld ?_
              refine tq 19 hHeld ?_
              refine tq 20 hHeld ?_
              refine tq 21 hHeld ?_
              refine tq 22 hHeld ?_
              refine tq 23 hHeld ?_
              refine wpAnyH_done (by kernel_rfl) ?_ _
              go_wp2_with fail
              go_roundw
              case rel => exact ⟨k + 1, by omega, by go_num, hB.trans (hb2.ofDr.mono hB.size), by rw [allBB, hall.out, hyes.out]; rfl⟩
              case measure => simp [intOf]; omega
            · have hdg : decide (U (k * 12) ≤ U (j * 12)) = true := decide_eq_true (by omega)
              have hno : Shut (stepBB U k = false) := by show stepBB U k = false; rw [stepBB, show k - 1 = j from by have := HJ.out; omega]; have := HJ.out; simp [hge]; omega
              refine wp_region_held_drew (S := fun w' => w'.cell? ⟨b, o + k * 12, none⟩ = some (.int .i64 (U (k * 12))) ∧ w'.cell? ⟨b, o + k * 12 + 1, none⟩ = some (.int .i64 (U (k * 12 + 1))) ∧ w'.cell? ⟨b, o + k * 12 + 2, none⟩ = some (.int .i64 (U (k * 12 + 2))) ∧ w'.cell? ⟨b, o + k * 12 + 3, none⟩ = some (.int .i64 (U (k * 12 + 3))) ∧ w'.cell? ⟨b, o + k * 12 + 4, none⟩ = some (.int .i64 (U (k * 12 + 4))) ∧ w'.cell? ⟨b, o + k * 12 + 5, none⟩ = some (.int .i64 (U (k * 12 + 5))) ∧ w'.cell? ⟨b, o + k * 12 + 6, none⟩ = some (.int .i64 (U (k * 12 + 6))) ∧ w'.cell? ⟨b, o + k * 12 + 7, none⟩ = some (.int .i64 (U (k * 12 + 7))) ∧ w'.cell? ⟨b, o + k * 12 + 8, none⟩ = some (.int .i64 (U (k * 12 + 8))) ∧ w'.cell? ⟨b, o + k * 12 + 9, none⟩ = some (.int .i64 (U (k * 12 + 9))) ∧ w'.cell? ⟨b, o + k * 12 + 10, none⟩ = some (.int .i64 (U (k * 12 + 10))) ∧ w'.cell? ⟨b, o + k * 12 + 11, none⟩ = some (.int .i64 (U (k * 12 + 11))) ∧ w'.cell? ⟨b, o + j * 12, none⟩ = some (.int .i64 (U (j * 12)))) (by kernel_rfl) ?_ (fun hHeld => ?_)
              · (try dsimp only)
                (first | (go_simp; done) | (go_keep; done))
              refine tq 0 hHeld ?_
              refine tq 1 hHeld ?_
              refine tq 2 hHeld ?_
              refine tq 3 hHeld ?_
              (refine tc 4 fun K hK => ?_; go_simp; (go_at_call 35; refine (sBodyOk_q (fun j => U (k * 12 + j)) _ _ (by exact hi)).mono ?_; rintro e w2 ⟨rfl, hb2⟩; obtain ⟨hc2, hf2⟩ := bcell hb2; have hz2 := hb2.size; (try simp only [World.size_drew, World.size_alloc, World.size_setCell] at hc2 hf2 hz2); have hk3 := fun o => hc2 b o (by omega); clear hc2 hf2); (try go_wp2_with fail); refine tr hK (fun hHeld => ?_); clear hK K)
              refine tq 5 hHeld ?_
              refine tq 6 hHeld ?_
              refine tq 7 hHeld ?_
              refine tq 8 hHeld ?_
              refine tq 9 hHeld ?_
              refine tq 10 hHeld ?_
              refine tq 11 hHeld ?_
              refine tq 12 hHeld ?_
              refine tq 13 hHeld ?_
              refine tq 14 hHeld ?_
              refine tq 15 hHeld ?_
              refine tq 16 hHeld ?_
              refine tq 17 hHeld ?_
              refine tq 18 hHeld ?_
              refine tq 19 hHeld ?_
              refine tq 20 hHeld ?_
              refine tq 21 hHeld ?_
              refine tq 22 hHeld ?_
              refine tq 23 hHeld ?_
              refine wpAnyH_done (by kernel_rfl) ?_ _
              go_wp2_with fail
              go_ret
              exact ⟨by rw [bodsB, allBB_no hno.out n hlt, Bool.and_false]; rfl, hB.trans (hb2.ofDr.mono hB.size)⟩
          · have hd0 : decide (0 < k) = false := decide_eq_false hk0
            have HK : Shut (k = 0) := (by omega : k = 0)
            clear hk0 hc
            have hyes : Shut (stepBB U k = true) := by show stepBB U k = true; rw [stepBB, hi, HK.out]; rfl
            refine wp_region_held_drew (S := fun w' => w'.cell? ⟨b, o + k * 12, none⟩ = some (.int .i64 (U (k * 12))) ∧ w'.cell? ⟨b, o + k * 12 + 1, none⟩ = some (.int .i64 (U (k * 12 + 1))) ∧ w'.cell? ⟨b, o + k * 12 + 2, none⟩ = some (.int .i64 (U (k * 12 + 2))) ∧ w'.cell? ⟨b, o + k * 12 + 3, none⟩ = some (.int .i64 (U (k * 12 + 3))) ∧ w'.cell? ⟨b, o + k * 12 + 4, none⟩ = some (.int .i64 (U (k * 12 + 4))) ∧ w'.cell? ⟨b, o + k * 12 + 5, none⟩ = some (.int .i64 (U (k * 12 + 5))) ∧ w'.cell? ⟨b, o + k * 12 + 6, none⟩ = some (.int .i64 (U (k * 12 + 6))) ∧ w'.cell? ⟨b, o + k * 12 + 7, none⟩ = some (.int .i64 (U (k * 12 + 7))) ∧ w'.cell? ⟨b, o + k * 12 + 8, none⟩ = some (.int .i64 (U (k * 12 + 8))) ∧ w'.cell? ⟨b, o + k * 12 + 9, none⟩ = some (.int .i64 (U (k * 12 + 9))) ∧ w'.cell? ⟨b, o + k * 12 + 10, none⟩ = some (.int .i64 (U (k * 12 + 10))) ∧ w'.cell? ⟨b, o + k * 12 + 11, none⟩ = some (.int .i64 (U (k * 12 + 11)))) (by kernel_rfl) ?_ (fun hHeld => ?_)
            · (try dsimp only)
              (first | (go_simp; done) | (go_keep; done))
            refine tq 0 hHeld ?_
            refine tq 1 hHeld ?_
            refine tq 2 hHeld ?_
            refine tq 3 hHeld ?_
            (refine tc 4 fun K hK => ?_; go_simp; (go_at_call 35; refine (sBodyOk_q (fun j => U (k * 12 + j)) _ _ (by exact hi)).mono ?_; rintro e w2 ⟨rfl, hb2⟩; obtain ⟨hc2, hf2⟩ := bcell hb2; have hz2 := hb2.size; (try simp only [World.size_drew, World.size_alloc, World.size_setCell] at hc2 hf2 hz2); have hk3 := fun o => hc2 b o (by omega); clear hc2 hf2); (try go_wp2_with fail); refine tr hK (fun hHeld => ?_); clear hK K)
            refine tq 5 hHeld ?_
            refine tq 6 hHeld ?_
            refine tq 7 hHeld ?_
            refine tq 8 hHeld ?_
            refine tq 9 hHeld ?_
            refine tn 10 hHeld ?_
            refine tn 11 hHeld ?_
            refine tn 12 hHeld ?_
            refine tn 13 hHeld ?_
            refine tn 14 hHeld ?_
            refine tn 15 hHeld ?_
            refine tn 16 hHeld ?_
            refine tn 17 hHeld ?_
            refine tn 18 hHeld ?_
            refine tn 19 hHeld ?_
            refine tn 20 hHeld ?_
            refine tn 21 hHeld ?_
            refine tq 22 hHeld ?_
            refine tq 23 hHeld ?_
            refine wpAnyH_done (by kernel_rfl) ?_ _
            go_wp2_with fail
            go_roundw
            case rel => exact ⟨k + 1, by omega, by go_num, hB.trans (hb2.ofDr.mono hB.size), by rw [allBB, hall.out, hyes.out]; rfl⟩
            case measure => simp [intOf]; omega
      · obtain rfl : k = n := by omega
        by_cases h12 : k ≤ 12
        · have h12' : (k : Int) ≤ 12 := by omega
          go_wp2
          go_ret
          exact ⟨by rw [bodsB, hall.out, decide_eq_true h12]; rfl, hB⟩
        · have h12' : ¬ (k : Int) ≤ 12 := by omega
          go_wp2
          go_ret
          exact ⟨by rw [bodsB, decide_eq_false h12]; rfl, hB⟩
theorem sBodiesOk_q (a : Option Addr) (n c : Nat) (U : Nat → Int) (b : Bool) (w : World) (h : Flat w a (n * 12) U) (hn : n ≤ 1048576) (e : bodsB n U = b) :
    Calls Tryz.prog 23 #[.slice a n c] w fun e w' => e = .returned (.bool b) ∧ Below w.heap.size w w' := by subst e; exact sBodiesOk_any a n c U w h hn
theorem columnsOf_ok (a : Option Addr) (n c : Nat) (U : Nat → Int) (w : World) (h : Flat w a (n * 12) U) (hn : n ≤ 1048576) (e : bodsB n U = true) :
    Calls Tryz.prog 27 #[.slice a n c] w fun e w' => ∃ cb S, e = .returned (.tuple #[.pointer (some ⟨cb, 0, none⟩), .bool true]) ∧ w.heap.size ≤ cb ∧ Cs w' cb n (colOf U) S ∧ Below w.heap.size w w' :=
  (columnsOf_any a n c U w h hn).mono fun e' w' q => by
    obtain ⟨q1, (⟨_, cb, S, q2, q3, q4⟩ | ⟨q2, _⟩)⟩ := q
    · exact ⟨cb, S, q2, q3, q4, q1⟩
    · rw [e] at q2; cases q2
theorem columnsOf_no (a : Option Addr) (n c : Nat) (U : Nat → Int) (w : World) (h : Flat w a (n * 12) U) (hn : n ≤ 1048576) (e : bodsB n U = false) :
    Calls Tryz.prog 27 #[.slice a n c] w fun e w' => e = .returned (.tuple #[.pointer none, .bool false]) ∧ Below w.heap.size w w' :=
  (columnsOf_any a n c U w h hn).mono fun e' w' q => by
    obtain ⟨q1, (⟨q2, _⟩ | ⟨_, q2⟩)⟩ := q
    · rw [e] at q2; cases q2
    · exact ⟨q2, q1⟩
end Go.Proofs.YtlbpmmjckoaleaaGreat
namespace Go.Proofs.YtlbpmmjckoaleaaGreat
open Go.RowKit
set_option linter.unusedVariables false
set_option linter.unusedSimpArgs false

theorem l5Touch_q (k1 g1 h1 x y k2 g2 h2 u v X Y D : Int) (K : Bool) (w : World) (s1 : shB k1 g1 h1 = true) (s2 : shB k2 g2 h2 = true) (p1 : inB 2560000 x y = true) (p2 : inB 2560000 u v = true) (e : toT k1 g1 h1 x y k2 g2 h2 u v = ((X, Y, D), K)) :
    Calls Tryz.prog 38 #[s3 k1 g1 h1, vv x y, s3 k2 g2 h2, vv u v] w fun e w' => e = .returned (.tuple #[s3 X Y D, .bool K]) ∧ Below w.heap.size w w' := by
  have e2 : toT k1 g1 h1 x y k2 g2 h2 u v = tcT k1 g1 h1 x y k2 g2 h2 u v := by unfold toT; rw [if_pos (by simp [*])]
  rw [e2] at e
  obtain ⟨px, py⟩ := inB_of p1
  obtain ⟨pu, pv⟩ := inB_of p2
  rcases shB_kinds s1 with ⟨rfl, rfl, a1, a2⟩ | ⟨rfl, a1, a2, a3, a4⟩ <;> rcases shB_kinds s2 with ⟨rfl, rfl, b1, b2⟩ | ⟨rfl, b1, b2, b3, b4⟩
  · exact sT_rr g1 g2 x y u v X Y D K w ⟨a1, a2⟩ ⟨b1, b2⟩ px py pu pv (by simpa [tcT] using e)
  · exact sT_rb g1 g2 h2 x y u v X Y D K w ⟨a1, a2⟩ ⟨b1, b2⟩ ⟨b3, b4⟩ px py pu pv (by simpa [tcT] using e)
  · exact sT_br g1 h1 g2 x y u v X Y D K w ⟨a1, a2⟩ ⟨a3, a4⟩ ⟨b1, b2⟩ px py pu pv (by simpa [tcT] using e)
  · exact sT_bb g1 h1 g2 h2 x y u v X Y D K w ⟨a1, a2⟩ ⟨a3, a4⟩ ⟨b1, b2⟩ ⟨b3, b4⟩ px py pu pv (by simpa [tcT] using e)
theorem bods_sh {U : Nat → Int} {n k : Nat} (h : bodsB n U = true) (l : k < n) : shB (U (k * 12 + 1)) (U (k * 12 + 2)) (U (k * 12 + 3)) = true ∧ inB 2560000 (U (k * 12 + 4)) (U (k * 12 + 5)) = true := by
  unfold bodsB at h
  rw [Bool.and_eq_true] at h
  have h2 : bodyB (fun j => U (k * 12 + j)) = true := by
    have key : ∀ m, allBB U m = true → k < m → stepBB U k = true := by
      intro m
      induction m with
      | zero => intro _ l; omega
      | succ m ih =>
        intro hm l
        unfold allBB at hm
        rw [Bool.and_eq_true] at hm
        by_cases e : k = m
        · subst e; exact hm.2
        · exact ih hm.1 (by omega)
    have := key n h.2 l
    unfold stepBB at this
    rw [Bool.and_eq_true] at this
    exact this.1
  unfold bodyB at h2
  simp only [Bool.and_eq_true] at h2
  exact ⟨h2.2.1, h2.2.2.1⟩
theorem flat5 (w : World) (p q r s u : Int) (t : TypeId) : Flat (w.alloc (Obj.cells #[.int .i64 p, .int .i64 q, .int .i64 r, .int .i64 s, .int .i64 u] t)) (some ⟨w.heap.size, 0, none⟩) (1 * 5) (ofL [p, q, r, s, u]) := by
  intro _
  refine ⟨w.heap.size, 0, rfl, by simp, fun j hj => ?_⟩
  rw [Nat.zero_add]
  rcases (show j = 0 ∨ j = 1 ∨ j = 2 ∨ j = 3 ∨ j = 4 by omega) with rfl | rfl | rfl | rfl | rfl <;> (simp only [ofL]; go_simp; (try rfl))

set_option maxRecDepth 20000 in
set_option maxHeartbeats 8000000 in
theorem l7Contacts_any (a : Option Addr) (n c : Nat) (U : Nat → Int) (w : World) (h : Flat w a (n * 12) U) (hok : bodsB n U = true) (hn : n ≤ 12) :
    Calls Tryz.prog 25 #[.slice a n c] w fun e w' => ∃ a' m c', e = .returned (.slice a' m c') ∧ (conL (colOf U) n).length = m * 5 ∧ OutL w w' 69 5 a' m c' (ofL (conL (colOf U) n)) := by
  have hset := cset_map
  go_enter Tryz.func25, Tryz.ntmps25
  go_wp2
  go_loopw [3, 4, 5, 6, 7] (fun s3 s4 _ _ _ wr => ∃ i a' m c', i ≤ n ∧ s4 = .int .i64 (i : Int) ∧ s3 = .slice a' m c' ∧ LsV w wr 69 5 a' m c' (conOut (colOf U) n i)) (fun _ s4 _ _ _ _ => n - (intOf s4).toNat)
  case atStart => exact ⟨0, _, _, _, Nat.zero_le _, rfl, rfl, LsV.new w _ _⟩
  case round =>
    obtain ⟨i, a', m, c', hi, rfl, rfl, hL⟩ := hrel
    by_cases hlt : i < n
    · have hin : (i : Int) < (n : Int) := by omega
      obtain ⟨b, o, rfl, hbl, hc⟩ := h (by omega)
      obtain ⟨si, qi⟩ := bods_sh hok hlt
      obtain ⟨mm, hm1, hm2⟩ := conOut_len (colOf U) n i
      have hm6 : i * n ≤ 12 * 12 := Nat.mul_le_mul (by omega) hn
      go_wp2
      go_loopw [3, 5, 6, 7] (fun s3 s5 _ _ wr => ∃ k a' m c', i < k ∧ k ≤ n ∧ s5 = .int .i64 (k : Int) ∧ s3 = .slice a' m c' ∧ LsV w wr 69 5 a' m c' (conOut (colOf U) n i ++ conIn (colOf U) i k)) (fun _ s5 _ _ _ => n - (intOf s5).toNat)
      case atStart => exact ⟨i + 1, _, _, _, by omega, by omega, by go_num, rfl, by rw [conIn_ge i (i + 1) (Nat.le_refl _), List.append_nil]; exact hL⟩
      case round =>
        clear hL
        obtain ⟨k, a2, m2, c2, hik, hk, rfl, rfl, hL⟩ := hrel
        by_cases hlk : k < n
        · have hkn : (k : Int) < (n : Int) := by omega
          obtain ⟨sk, qk⟩ := bods_sh hok hlk
          obtain ⟨mk, hm3, hm4⟩ := conIn_len (colOf U) i k
          have hm5 := hL.len
          rw [List.length_append, hm1, hm3] at hm5
          have hc' : ∀ q, q < n * 12 → wr.cell? ⟨b, o + q, none⟩ = some (.int .i64 (U q)) := fun q hq => (hL.bel.cell (p := ⟨b, o + q, none⟩) hbl).trans (hc q hq)
          have hzr := hL.bel.size
          have ci1 := hc' (i * 12 + 1) (by omega)
          have ck1 := hc' (k * 12 + 1) (by omega)
          have ci2 := hc' (i * 12 + 2) (by omega)
          have ck2 := hc' (k * 12 + 2) (by omega)
          have ci3 := hc' (i * 12 + 3) (by omega)
          have ck3 := hc' (k * 12 + 3) (by omega)
          have ci4 := hc' (i * 12 + 4) (by omega)
          have ck4 := hc' (k * 12 + 4) (by omega)
          have ci5 := hc' (i * 12 + 5) (by omega)
          have ck5 := hc' (k * 12 + 5) (by omega)
          have ci8 := hc' (i * 12 + 8) (by omega)
          have ck8 := hc' (k * 12 + 8) (by omega)
          simp only [← Nat.add_assoc] at ci1 ck1 ci2 ck2 ci3 ck3 ci4 ck4 ci5 ck5 ci8 ck8
          clear hc'
          by_cases hfx : U (i * 12 + 8) = 0 ∧ U (k * 12 + 8) = 0
          · obtain ⟨f1, f2⟩ := hfx
            have hno : Shut (conOne (colOf U) i k = []) := conOne_no (by unfold conB colOf; rw [f1, f2]; simp)
            rw [f1] at ci8
            rw [f2] at ck8
            go_wp2
            go_roundw
            case rel => exact ⟨k + 1, _, _, _, by omega, by omega, by go_num, rfl, by rw [conIn, hno.out, List.append_nil]; exact hL⟩
            case measure => simp [intOf]; omega
          · obtain ⟨TX, TY, TD, TJ, hT⟩ : ∃ TX TY TD TJ, tcH (colOf U) i k = ((TX, TY, TD), TJ) := ⟨_, _, _, _, rfl⟩
            have hfx' : Shut (¬ (U (i * 12 + 8) = 0 ∧ U (k * 12 + 8) = 0)) := hfx
            have key : ∀ (g : Prop), (U (i * 12 + 8) ≠ 0 → g) → (U (i * 12 + 8) = 0 → U (k * 12 + 8) ≠ 0 → g) → g := fun g h1 h2 => by
              by_cases e : U (i * 12 + 8) = 0
              · exact h2 e (fun e2 => hfx ⟨e, e2⟩)
              · exact h1 e
            clear hfx
            go_upto_region 8 with fail
            go_cut [36] (fun s wc => s = .bool false ∧ wr = wc)
            case first =>
              refine key _ (fun e => ?_) (fun e1 e2 => ?_)
              · have e' : decide (U (i * 12 + 8) = 0) = false := decide_eq_false e
                have e3 : (U (i * 12 + 8) == 0) = false := by simp [e]
                go_wp2
                go_meet
                exact ⟨by first | rfl | simp [e3], rfl⟩
              · have e' : decide (U (k * 12 + 8) = 0) = false := decide_eq_false e2
                have e3 : (U (k * 12 + 8) == 0) = false := by simp [e2]
                rw [e1] at ci8
                go_wp2
                go_meet
                exact ⟨by first | rfl | simp [e3], rfl⟩
            case rest =>
            obtain ⟨rfl, rfl⟩ := hcut
            clear key ci8 ck8
            go_upto_region 9 with fail
            go_cut [6, 7] (fun s6 s7 wd => ∃ bh, s6 = .pointer (some ⟨bh, 0, none⟩) ∧ s7 = .bool TJ ∧ wd.cell? ⟨bh, 0, none⟩ = some (.int .i64 TX) ∧ wd.cell? ⟨bh, 1, none⟩ = some (.int .i64 TY) ∧ wd.cell? ⟨bh, 2, none⟩ = some (.int .i64 TD) ∧ bh < wd.heap.size ∧ wr.heap.size ≤ bh ∧ Below wr.heap.size wr wd)
            case first =>
              refine wp_region_held_drew (S := fun w' => w'.cell? ⟨b, o + i * 12 + 1, none⟩ = some (.int .i64 (U (i * 12 + 1))) ∧ w'.cell? ⟨b, o + i * 12 + 2, none⟩ = some (.int .i64 (U (i * 12 + 2))) ∧ w'.cell? ⟨b, o + i * 12 + 3, none⟩ = some (.int .i64 (U (i * 12 + 3))) ∧ w'.cell? ⟨b, o + i * 12 + 4, none⟩ = some (.int .i64 (U (i * 12 + 4))) ∧ w'.cell? ⟨b, o + i * 12 + 5, none⟩ = some (.int .i64 (U (i * 12 + 5))) ∧ w'.cell? ⟨b, o + k * 12 + 1, none⟩ = some (.int .i64 (U (k * 12 + 1))) ∧ w'.cell? ⟨b, o + k * 12 + 2, none⟩ = some (.int .i64 (U (k * 12 + 2))) ∧ w'.cell? ⟨b, o + k * 12 + 3, none⟩ = some (.int .i64 (U (k * 12 + 3))) ∧ w'.cell? ⟨b, o + k * 12 + 4, none⟩ = some (.int .i64 (U (k * 12 + 4))) ∧ w'.cell? ⟨b, o + k * 12 + 5, none⟩ = some (.int .i64 (U (k * 12 + 5)))) (by kernel_rfl) ?_ (fun hHeld => ?_)
              · (try dsimp only)
                (first | (go_simp; done) | (go_keep; done))
              refine tq 0 hHeld ?_
              refine tq 1 hHeld ?_
              refine tq 2 hHeld ?_
              refine tq 3 hHeld ?_
              refine tq 4 hHeld ?_
              refine tq 5 hHeld ?_
              refine tq 6 hHeld ?_
              refine tq 7 hHeld ?_
              refine tq 8 hHeld ?_
              refine tq 9 hHeld ?_
              refine tq 10 hHeld ?_
              refine tq 11 hHeld ?_
              refine tq 12 hHeld ?_
              refine tq 13 hHeld ?_
              refine tq 14 hHeld ?_
              refine tq 15 hHeld ?_
              refine tq 16 hHeld ?_
              refine tq 17 hHeld ?_
              refine tq 18 hHeld ?_
              refine tq 19 hHeld ?_
              refine wpAnyH_ready (rs := [20, 24]) (by kernel_rfl) (by simp) ?_
              refine AllReadyH.cons rfl (fun K hK => ?_) (AllReadyH.cons rfl (fun K hK => ?_) AllReadyH.nil)
              · (go_simp; (go_at_call 38; refine (l5Touch_q _ _ _ _ _ _ _ _ _ _ TX TY TD TJ _ si sk qi qk hT).mono ?_; rintro e w3 ⟨rfl, hb3⟩; obtain ⟨hc3, hf3⟩ := bcell hb3; have hz3 := hb3.size; (try simp only [World.size_drew, World.size_alloc, World.size_setCell] at hc3 hf3 hz3); have hk3x0 := fun o => hc3 (b) o (by omega); have hj3x0 := fun o => hf3 (b) o (by omega); have hq3x0 : b < w3.heap.size := (by omega); clear hc3 hf3; have hk3z := fun o => hb3.cell (p := ⟨wr.heap.size, o, none⟩); have hj3z := fun o => hb3.frozen (p := ⟨wr.heap.size, o, none⟩); (try simp only [World.size_drew, World.size_alloc] at hk3z hj3z)); (try go_wp2_with fail); refine tr hK (fun hHeld => ?_); clear hK K)
                refine tq 21 hHeld ?_
                refine tq 22 hHeld ?_
                refine tq 23 hHeld ?_
                refine tc 24 fun K hK => ?_
                (go_simp; refine tr hK (fun hHeld => ?_); clear hK K)
                refine tc 25 fun K hK => ?_
                (go_simp; refine tr hK (fun hHeld => ?_); clear hK K)
                refine tq 26 hHeld ?_
                refine wpAnyH_done (by kernel_rfl) ?_ _
                go_wp2_with fail
                go_meet
                exact ⟨_, rfl, rfl, by go_simp, by go_simp, by go_simp, by first | (simp; omega) | simp | omega, by first | (simp; omega) | simp | omega, bel_a⟩
              · (go_simp; refine tr hK (fun hHeld => ?_); clear hK K)
                refine tc 20 fun K hK => ?_
                (go_simp; (go_at_call 38; refine (l5Touch_q _ _ _ _ _ _ _ _ _ _ TX TY TD TJ _ si sk qi qk hT).mono ?_; rintro e w3 ⟨rfl, hb3⟩; obtain ⟨hc3, hf3⟩ := bcell hb3; have hz3 := hb3.size; (try simp only [World.size_drew, World.size_alloc, World.size_setCell] at hc3 hf3 hz3); have hk3x0 := fun o => hc3 (b) o (by omega); have hj3x0 := fun o => hf3 (b) o (by omega); have hq3x0 : b < w3.heap.size := (by omega); clear hc3 hf3; have hk3z := fun o => hb3.cell (p := ⟨wr.heap.size, o, none⟩); have hj3z := fun o => hb3.frozen (p := ⟨wr.heap.size, o, none⟩); (try simp only [World.size_drew, World.size_alloc] at hk3z hj3z)); (try go_wp2_with fail); refine tr hK (fun hHeld => ?_); clear hK K)
                refine tq 21 hHeld ?_
                refine tq 22 hHeld ?_
                refine tq 23 hHeld ?_
                refine tc 25 fun K hK => ?_
                (go_simp; refine tr hK (fun hHeld => ?_); clear hK K)
                refine tq 26 hHeld ?_
                refine wpAnyH_done (by kernel_rfl) ?_ _
                go_wp2_with fail
                go_meet
                exact ⟨_, rfl, rfl, by go_simp, by go_simp, by go_simp, by first | (simp; omega) | simp | omega, by first | (simp; omega) | simp | omega, bel_a⟩
            case rest =>
            obtain ⟨bh, rfl, rfl, t0, t1, t2, hbh, hbh0, hbd⟩ := hcut
            have hLd := hL.below hbd
            cases TJ with
            | false =>
              have hno : Shut (conOne (colOf U) i k = []) := conOne_no (by unfold conB; rw [hT]; simp)
              go_wp2
              go_roundw
              case rel => exact ⟨k + 1, _, _, _, by omega, by omega, by go_num, rfl, by rw [conIn, hno.out, List.append_nil]; exact hLd⟩
              case measure => simp [intOf]; omega
            | true =>
              have hyes : Shut (conOne (colOf U) i k = [(i : Int), (k : Int), TX, TY, TD]) := conOne_yes (conB_yes hik hfx'.out hT) hT
              go_wp2_with (refine wpList_app rfl _ _ _ rfl w.heap.size 69 5 40 (.agg #[.int .i64 0, .int .i64 0, .int .i64 0, .int .i64 0, .int .i64 0]) Tryz.underlying41 (by kernel_rfl) (by rfl) (by omega) (.slice a2 m2 c2) m2 (ofL (conOut (colOf U) n i ++ conIn (colOf U) i k)) rfl (hLd.below ((Below.refl _ _).alloc (Nat.le_refl _) _)).own _ 1 _ (ofL [(i : Int), (k : Int), TX, TY, TD]) rfl (flat5 _ _ _ _ _ _ _) (by unfold maxLen; omega) (by omega) (by simp only [World.size_alloc]; have := hLd.bel.size; omega) ?_; intro a1 c1 w1 ho1 hg1)
              have hP := (hLd.below ((Below.refl _ _).alloc (Nat.le_refl _) _)).push (x := [(i : Int), (k : Int), TX, TY, TD]) rfl hg1 ho1
              go_roundw
              case rel => exact ⟨k + 1, _, _, _, by omega, by omega, by go_num, rfl, by rw [conIn, hyes.out, ← List.append_assoc]; exact hP⟩
              case measure => simp [intOf]; omega
        · obtain rfl : k = n := by omega
          go_wp2
          go_roundw
          case rel => exact ⟨i + 1, _, _, _, by omega, by go_num, rfl, hL⟩
          case measure => simp [intOf]; omega
    · obtain rfl : i = n := by omega
      go_wp2
      go_ret
      exact ⟨_, _, _, rfl, hL.len, hL.bel, hL.own⟩
end Go.Proofs.YtlbpmmjckoaleaaGreat
namespace Go.Proofs.YtlbpmmjckoaleaaGreat
open Go.RowKit
set_option linter.unusedVariables false
set_option linter.unusedSimpArgs false
theorem IV_num {l : List Int} {n : Nat} (h : l.length = n) : IV l = numL (n * 1) (ofL l) := by
  apply List.ext_getElem?
  intro j
  by_cases e : j < n
  · rw [IV_get (by omega), numL_get (by omega)]
  · rw [List.getElem?_eq_none (by rw [IV_len]; omega), List.getElem?_eq_none (by rw [numL_len]; omega)]
theorem LV.out {w wr : World} {t g cap n : Nat} {l : List Int} (h : LV w wr t g cap n (IV l)) : OutL w wr t 1 (some ⟨g, 0, none⟩) n cap (ofL l) := by
  refine ⟨h.bel, ?_⟩
  have hl := h.len
  rw [IV_len] at hl
  have ho := h.own
  rw [IV_num hl] at ho
  exact ho
theorem OutL.up {w w0 wr : World} {t k : Nat} {a : Option Addr} {n c : Nat} {R : Nat → Int} (h : OutL w wr t k a n c R) (hb : Below w0.heap.size w0 w) : OutL w0 wr t k a n c R := ⟨hb.trans (h.bel.mono hb.size), h.own.base hb.size⟩
/-- how many contacts -/
def conN (n : Nat) (U : Nat → Int) : Nat := (conL (colOf U) n).length / 5
theorem conN_eq {n : Nat} (U : Nat → Int) (hn : n ≤ 12) : (conL (colOf U) n).length = conN n U * 5 ∧ conN n U ≤ 144 := by
  obtain ⟨m, h1, h2⟩ := conOut_len (colOf U) n n
  have e : (conL (colOf U) n).length = m * 5 := h1
  have := Nat.mul_le_mul hn hn
  unfold conN
  rw [e]
  omega
def grpU (n : Nat) (U : Nat → Int) : List Int := grpL U (ofL (conL (colOf U) n)) (conN n U) n
/-- the groups of a list, if it is ok -/
def grpO (n : Nat) (U : Nat → Int) : List Int := bif bodsB n U then grpU n U else []
theorem bods_n {n : Nat} {U : Nat → Int} (h : bodsB n U = true) : n ≤ 12 := by unfold bodsB at h; rw [Bool.and_eq_true, decide_eq_true_eq] at h; exact h.1
theorem grpO_len (n : Nat) (U : Nat → Int) : (grpO n U).length ≤ 12 := by
  unfold grpO
  cases h : bodsB n U with
  | false => exact Nat.zero_le _
  | true => have := bods_n h; show (grpL _ _ _ n).length ≤ 12; rw [grpL_len]; exact this
theorem grpO_y {n : Nat} {U : Nat → Int} (h : bodsB n U = true) : grpO n U = grpU n U := by unfold grpO; rw [h]; rfl
theorem grpO_n {n : Nat} {U : Nat → Int} (h : bodsB n U = false) : grpO n U = [] := by unfold grpO; rw [h]; rfl
set_option maxRecDepth 20000 in
set_option maxHeartbeats 4000000 in
theorem groupsI_q (a : Option Addr) (n c : Nat) (U : Nat → Int) (N : Nat) (w : World) (h : Flat w a (n * 12) U) (hn : n ≤ 1048576) (hN : (grpO n U).length = N) :
    Calls Tryz.prog 9 #[.slice a n c] w fun e w' => ∃ a' c', e = .returned (.slice a' N c') ∧ OutL w w' 3 1 a' N c' (ofL (grpO n U)) := by
  have hset := cset_map
  cases hok : bodsB n U with
  | true =>
    have h12 := bods_n hok
    obtain ⟨hM, hMk⟩ := conN_eq U h12
    rw [grpO_y hok] at hN ⊢
    rw [grpU, grpL_len] at hN
    subst hN
    go_enter Tryz.func9, Tryz.ntmps9
    go_wp2_with (first
      | (go_at_call 27; refine (columnsOf_ok a n c U _ h hn hok).mono ?_; rintro e w1 ⟨cb, S, rfl, hcb, hC, hb1⟩)
      | (go_at_call 28; refine (numbered_any cb n U S _ _ hC h12 hM (by omega)).mono ?_; rintro e w2 ⟨g2, rfl, hO2⟩))
    go_ret
    exact ⟨_, _, rfl, hO2.out.up hb1⟩
  | false =>
    rw [grpO_n hok] at hN ⊢
    obtain rfl : 0 = N := hN
    go_enter Tryz.func9, Tryz.ntmps9
    go_wp2_with (go_at_call 27; refine (columnsOf_no a n c U _ h hn hok).mono ?_; rintro e w1 ⟨rfl, hb1⟩)
    go_ret
    exact ⟨none, 0, rfl, hb1, OwnL.nil _ _ _ _ _⟩
set_option maxRecDepth 20000 in
set_option maxHeartbeats 4000000 in
theorem groupsS_q (a : Option Addr) (n c : Nat) (U : Nat → Int) (N : Nat) (w : World) (h : Flat w a (n * 12) U) (hn : n ≤ 1048576) (hN : (grpO n U).length = N) :
    Calls Tryz.prog 7 #[.slice a n c] w fun e w' => ∃ a' c', e = .returned (.slice a' N c') ∧ OutL w w' 3 1 a' N c' (ofL (grpO n U)) := by
  have hset := cset_map
  cases hok : bodsB n U with
  | true =>
    have h12 := bods_n hok
    obtain ⟨hM, hMk⟩ := conN_eq U h12
    have hCt := con_ct (colOf U) hM
    rw [grpO_y hok] at hN ⊢
    rw [grpU, grpL_len] at hN
    subst hN
    unfold grpU
    generalize conN n U = M at hM hMk hCt ⊢
    go_enter Tryz.func7, Tryz.ntmps7
    go_wp2_with (first
      | (go_at_call 23; refine (sBodiesOk_q a n c U true _ h hn hok).mono ?_; rintro e w1 ⟨rfl, hb1⟩)
      | (go_at_call 25; refine (l7Contacts_any a n c U _ (h.below hb1) hok h12).mono ?_; rintro e w2 ⟨a2, m2, c2, rfl, hl2, hO2⟩; obtain rfl : m2 = M := (by omega))
      | (go_at_call 24; refine (l7Groups_any a n c U a2 m2 c2 _ _ ((h.below hb1).below hO2.bel) (by omega) (by omega) hO2.own.flat hCt).mono ?_; rintro e w3 ⟨g3, c3, rfl, hO3⟩))
    go_ret
    exact ⟨_, _, rfl, (hO3.out.up hO2.bel).up hb1⟩
  | false =>
    rw [grpO_n hok] at hN ⊢
    obtain rfl : 0 = N := hN
    go_enter Tryz.func7, Tryz.ntmps7
    go_wp2_with (go_at_call 23; refine (sBodiesOk_q a n c U false _ h hn hok).mono ?_; rintro e w1 ⟨rfl, hb1⟩)
    go_ret
    exact ⟨_, _, rfl, hb1.alloc hb1.size _, ((LsV.new w1 _ _).own.base hb1.size)⟩
theorem groupsI_r {n : Nat} {U R : Nat → Int} (hR : R = ofL (grpO n U)) (a : Option Addr) (c N : Nat) (w : World) (h : Flat w a (n * 12) U) (hn : n ≤ 1048576) (hN : (grpO n U).length = N) :
    Calls Tryz.prog 9 #[.slice a n c] w fun e w' => ∃ a' c', e = .returned (.slice a' N c') ∧ OutL w w' 3 1 a' N c' R := by subst hR; exact groupsI_q a n c U N w h hn hN
theorem groupsS_r {n : Nat} {U R : Nat → Int} (hR : R = ofL (grpO n U)) (a : Option Addr) (c N : Nat) (w : World) (h : Flat w a (n * 12) U) (hn : n ≤ 1048576) (hN : (grpO n U).length = N) :
    Calls Tryz.prog 7 #[.slice a n c] w fun e w' => ∃ a' c', e = .returned (.slice a' N c') ∧ OutL w w' 3 1 a' N c' R := by subst hR; exact groupsS_q a n c U N w h hn hN
end Go.Proofs.YtlbpmmjckoaleaaGreat
namespace Go.Proofs.YtlbpmmjckoaleaaGreat
open Go.RowKit
set_option linter.unusedVariables false
set_option linter.unusedSimpArgs false

abbrev zeroBd : Value := .agg #[.int .i64 0, .int .i64 0, .int .i64 0, .int .i64 0, .int .i64 0, .int .i64 0, .int .i64 0, .int .i64 0, .int .i64 0, .int .i64 0, .int .i64 0, .int .i64 0]
theorem makeBodies (n : Nat) (hn : n ≤ 1048576) (w : World) : (Instr.makeSlice 26 (.int .i64 (n : Int)) (.int .i64 (n : Int))).run Tryz.prog w = .ok (.slice (some ⟨w.heap.size, 0, none⟩) n n) (w.alloc (.cells (madeCells zeroBd.cells (n * 12)) 48)) :=
  make_rows _ _ zeroBd 12 96 Tryz.underlying26 (by kernel_rfl) _ _ n (by omega) (by omega) w
set_option maxRecDepth 20000 in
set_option maxHeartbeats 2000000 in
theorem toBodyS_any (a : Option Addr) (n c : Nat) (U : Nat → Int) (w : World) (h : Flat w a (n * 12) U) (hn : n ≤ 1048576) :
    Calls Tryz.prog 8 #[.slice a n c] w fun e w' => ∃ b, e = .returned (.slice (some ⟨b, 0, none⟩) n n) ∧ w.heap.size ≤ b ∧ Row w' b 48 (n * 12) U ∧ Below w.heap.size w w' := by
  have hmk := makeBodies n hn
  go_enter Tryz.func8, Tryz.ntmps8
  go_wp2
  clear hmk
  go_loopw [4] (fun i wr => ∃ k : Nat, k ≤ n ∧ i = .int .i64 (k : Int) ∧ Row wr w.heap.size 48 (n * 12) (upto (k * 12) U) ∧ Below w.heap.size w wr) (fun i _ => n - (intOf i).toNat)
  case atStart => exact ⟨0, Nat.zero_le _, rfl, (Row.madek w _ 12 _ _ rfl (by decide) U).cut (by omega), (Below.refl _ _).alloc (Nat.le_refl _) _⟩
  case round =>
    obtain ⟨k, hk, rfl, hr, hbel⟩ := hrel
    have hrl := hr.lt
    by_cases hlt : k < n
    · obtain ⟨b, o, rfl, hbl, hc⟩ := (h.below hbel) (by omega)
      have c0 := hc (k * 12) (by omega)
      have c1 := hc (k * 12 + 1) (by omega)
      have c2 := hc (k * 12 + 2) (by omega)
      have c3 := hc (k * 12 + 3) (by omega)
      have c4 := hc (k * 12 + 4) (by omega)
      have c5 := hc (k * 12 + 5) (by omega)
      have c6 := hc (k * 12 + 6) (by omega)
      have c7 := hc (k * 12 + 7) (by omega)
      have c8 := hc (k * 12 + 8) (by omega)
      have c9 := hc (k * 12 + 9) (by omega)
      have c10 := hc (k * 12 + 10) (by omega)
      have c11 := hc (k * 12 + 11) (by omega)
      simp only [← Nat.add_assoc] at c0 c1 c2 c3 c4 c5 c6 c7 c8 c9 c10 c11
      clear hc h
      go_wp2_with (go_at_call 26; refine (toBody_any (fun j => U (k * 12 + j)) _).mono ?_; rintro e w1 ⟨rfl, hb1⟩; have hr1 := hr.below hb1; have f1 := hr1.fro; (have e0 := hr1.cell (q := k * 12) (by omega)); (have e1 := hr1.cell (q := k * 12 + 1) (by omega)); (have e2 := hr1.cell (q := k * 12 + 2) (by omega)); (have e3 := hr1.cell (q := k * 12 + 3) (by omega)); (have e4 := hr1.cell (q := k * 12 + 4) (by omega)); (have e5 := hr1.cell (q := k * 12 + 5) (by omega)); (have e6 := hr1.cell (q := k * 12 + 6) (by omega)); (have e7 := hr1.cell (q := k * 12 + 7) (by omega)); (have e8 := hr1.cell (q := k * 12 + 8) (by omega)); (have e9 := hr1.cell (q := k * 12 + 9) (by omega)); (have e10 := hr1.cell (q := k * 12 + 10) (by omega)); (have e11 := hr1.cell (q := k * 12 + 11) (by omega)))
      go_roundw
      case rel => exact ⟨k + 1, by omega, by go_num, (((((((((((((hr1).next).next).next).next).next).next).next).next).next).next).next).next).cut (by omega), bel_a⟩
      case measure => simp [intOf]; omega
    · go_wp2
      go_ret
      exact ⟨_, rfl, Nat.le_refl _, hr.full (by omega), hbel⟩
theorem eqShapeL_same (a b c : Int) (w : World) :
    Calls Tryz.prog 44 #[s3 a b c, s3 a b c] w fun e w' => e = .returned (.bool true) ∧ Below w.heap.size w w' := by
  have hset := cset_map
  go_enter Tryz.func44, Tryz.ntmps44
  go_wp2
  go_ret
  exact ⟨rfl, bel_a⟩
set_option maxRecDepth 20000 in
set_option maxHeartbeats 2000000 in
theorem eqBody_same (V : Nat → Int) (w : World) :
    Calls Tryz.prog 29 #[bodyW V, bodyW V] w fun e w' => e = .returned (.bool true) ∧ Below w.heap.size w w' := by
  have hset := cset_map
  go_enter Tryz.func29, Tryz.ntmps29
  go_wp2_with (first
    | (go_at_call 44; refine (eqShapeL_same _ _ _ _).mono ?_; rintro e w1 ⟨rfl, hb1⟩; obtain ⟨hc1, hf1⟩ := bcell hb1; have hz1 := hb1.size; (try simp only [World.size_drew, World.size_alloc, World.size_setCell] at hc1 hf1 hz1); (try have hq1x0 : w.heap.size < w1.heap.size := (by omega)); (try have hq1x1 : w.heap.size + 1 < w1.heap.size := (by omega)); have hk1 := fun o => hc1 w.heap.size o (by omega); have hk2 := fun o => hc1 (w.heap.size + 1) o (by omega); clear hc1 hf1)
    | (have _ := hq2x0; (go_at_call 45; refine (eqVec_same _ _ _).mono ?_; rintro e w3 ⟨rfl, hb3⟩; obtain ⟨hc3, hf3⟩ := bcell hb3; have hz3 := hb3.size; (try simp only [World.size_drew, World.size_alloc, World.size_setCell] at hc3 hf3 hz3); have hk5 := fun o => hc3 w.heap.size o (by omega); have hk6 := fun o => hc3 (w.heap.size + 1) o (by omega); clear hc3 hf3))
    | (go_at_call 45; refine (eqVec_same _ _ _).mono ?_; rintro e w2 ⟨rfl, hb2⟩; obtain ⟨hc2, hf2⟩ := bcell hb2; have hz2 := hb2.size; (try simp only [World.size_drew, World.size_alloc, World.size_setCell] at hc2 hf2 hz2); have hq2x0 : w.heap.size < w2.heap.size := (by omega); have hq2x1 : w.heap.size + 1 < w2.heap.size := (by omega); have hk3 := fun o => hc2 w.heap.size o (by omega); have hk4 := fun o => hc2 (w.heap.size + 1) o (by omega); clear hc2 hf2))
  go_ret
  exact ⟨rfl, bel_a⟩
set_option maxRecDepth 20000 in
set_option maxHeartbeats 2000000 in
theorem eqBodyS_same (a a' : Option Addr) (n c c' : Nat) (U : Nat → Int) (w : World) (h : Flat w a (n * 12) U) (h' : Flat w a' (n * 12) U) (hn : n ≤ 1048576) :
    Calls Tryz.prog 11 #[.slice a n c, .slice a' n c'] w fun e w' => e = .returned (.bool true) ∧ Below w.heap.size w w' := by
  go_enter Tryz.func11, Tryz.ntmps11
  go_wp2
  go_loopw [5] (fun i wr => ∃ k : Nat, k ≤ n ∧ i = .int .i64 (k : Int) ∧ Below w.heap.size w wr) (fun i _ => n - (intOf i).toNat)
  case atStart => exact ⟨0, Nat.zero_le _, rfl, Below.refl _ _⟩
  case round =>
    obtain ⟨k, hk, rfl, hB⟩ := hrel
    by_cases hlt : k < n
    · have hkn : (k : Int) < (n : Int) := by omega
      obtain ⟨b, o, rfl, hbl, hc⟩ := (h.below hB) (by omega)
      obtain ⟨b', o', rfl, hbl', hc'⟩ := (h'.below hB) (by omega)
      have c0 := hc (k * 12 + 0) (by omega)
      have d0 := hc' (k * 12 + 0) (by omega)
      have c1 := hc (k * 12 + 1) (by omega)
      have d1 := hc' (k * 12 + 1) (by omega)
      have c2 := hc (k * 12 + 2) (by omega)
      have d2 := hc' (k * 12 + 2) (by omega)
      have c3 := hc (k * 12 + 3) (by omega)
      have d3 := hc' (k * 12 + 3) (by omega)
      have c4 := hc (k * 12 + 4) (by omega)
      have d4 := hc' (k * 12 + 4) (by omega)
      have c5 := hc (k * 12 + 5) (by omega)
      have d5 := hc' (k * 12 + 5) (by omega)
      have c6 := hc (k * 12 + 6) (by omega)
      have d6 := hc' (k * 12 + 6) (by omega)
      have c7 := hc (k * 12 + 7) (by omega)
      have d7 := hc' (k * 12 + 7) (by omega)
      have c8 := hc (k * 12 + 8) (by omega)
      have d8 := hc' (k * 12 + 8) (by omega)
      have c9 := hc (k * 12 + 9) (by omega)
      have d9 := hc' (k * 12 + 9) (by omega)
      have c10 := hc (k * 12 + 10) (by omega)
      have d10 := hc' (k * 12 + 10) (by omega)
      have c11 := hc (k * 12 + 11) (by omega)
      have d11 := hc' (k * 12 + 11) (by omega)
      simp only [← Nat.add_assoc, Nat.add_zero] at c0 d0 c1 d1 c2 d2 c3 d3 c4 d4 c5 d5 c6 d6 c7 d7 c8 d8 c9 d9 c10 d10 c11 d11
      clear hc hc' h h'
      go_upto_region 6 with fail
      refine wp_region_held_drew (S := fun w' => w'.cell? ⟨b, o + k * 12, none⟩ = some (.int .i64 (U (k * 12))) ∧ w'.cell? ⟨b, o + k * 12 + 1, none⟩ = some (.int .i64 (U (k * 12 + 1))) ∧ w'.cell? ⟨b, o + k * 12 + 2, none⟩ = some (.int .i64 (U (k * 12 + 2))) ∧ w'.cell? ⟨b, o + k * 12 + 3, none⟩ = some (.int .i64 (U (k * 12 + 3))) ∧ w'.cell? ⟨b, o + k * 12 + 4, none⟩ = some (.int .i64 (U (k * 12 + 4))) ∧ w'.cell? ⟨b, o + k * 12 + 5, none⟩ = some (.int .i64 (U (k * 12 + 5))) ∧ w'.cell? ⟨b, o + k * 12 + 6, none⟩ = some (.int .i64 (U (k * 12 + 6))) ∧ w'.cell? ⟨b, o + k * 12 + 7, none⟩ = some (.int .i64 (U (k * 12 + 7))) ∧ w'.cell? ⟨b, o + k * 12 + 8, none⟩ = some (.int .i64 (U (k * 12 + 8))) ∧ w'.cell? ⟨b, o + k * 12 + 9, none⟩ = some (.int .i64 (U (k * 12 + 9))) ∧ w'.cell? ⟨b, o + k * 12 + 10, none⟩ = some (.int .i64 (U (k * 12 + 10))) ∧ w'.cell? ⟨b, o + k * 12 + 11, none⟩ = some (.int .i64 (U (k * 12 + 11))) ∧ w'.cell? ⟨b', o' + k * 12, none⟩ = some (.int .i64 (U (k * 12))) ∧ w'.cell? ⟨b', o' + k * 12 + 1, none⟩ = some (.int .i64 (U (k * 12 + 1))) ∧ w'.cell? ⟨b', o' + k * 12 + 2, none⟩ = some (.int .i64 (U (k * 12 + 2))) ∧ w'.cell? ⟨b', o' + k * 12 + 3, none⟩ = some (.int .i64 (U (k * 12 + 3))) ∧ w'.cell? ⟨b', o' + k * 12 + 4, none⟩ = some (.int .i64 (U (k * 12 + 4))) ∧ w'.cell? ⟨b', o' + k * 12 + 5, none⟩ = some (.int .i64 (U (k * 12 + 5))) ∧ w'.cell? ⟨b', o' + k * 12 + 6, none⟩ = some (.int .i64 (U (k * 12 + 6))) ∧ w'.cell? ⟨b', o' + k * 12 + 7, none⟩ = some (.int .i64 (U (k * 12 + 7))) ∧ w'.cell? ⟨b', o' + k * 12 + 8, none⟩ = some (.int .i64 (U (k * 12 + 8))) ∧ w'.cell? ⟨b', o' + k * 12 + 9, none⟩ = some (.int .i64 (U (k * 12 + 9))) ∧ w'.cell? ⟨b', o' + k * 12 + 10, none⟩ = some (.int .i64 (U (k * 12 + 10))) ∧ w'.cell? ⟨b', o' + k * 12 + 11, none⟩ = some (.int .i64 (U (k * 12 + 11)))) (by kernel_rfl) ?_ (fun hHeld => ?_)
      · (try dsimp only)
        (first | (go_simp; done) | (go_keep; done))
      refine tq 0 hHeld ?_
      refine tq 1 hHeld ?_
      refine tq 2 hHeld ?_
      refine tq 3 hHeld ?_
      refine tq 4 hHeld ?_
      refine tq 5 hHeld ?_
      refine tq 6 hHeld ?_
      refine tq 7 hHeld ?_
      (refine tc 8 fun K hK => ?_; go_simp; (go_at_call 29; refine (eqBody_same (fun j => U (k * 12 + j)) _).mono ?_; rintro e w1 ⟨rfl, hb1⟩; obtain ⟨hc1, hf1⟩ := bcell hb1; have hz1 := hb1.size; (try simp only [World.size_drew, World.size_alloc, World.size_setCell] at hc1 hf1 hz1); have hk1 := fun o => hc1 b o (by omega); have hk2 := fun o => hc1 b' o (by omega); clear hc1 hf1); (try go_wp2_with fail); refine tr hK (fun hHeld => ?_); clear hK K)
      refine tq 9 hHeld ?_
      refine wpAnyH_done (by kernel_rfl) ?_ _
      go_wp2_with fail
      go_roundw
      case rel => exact ⟨k + 1, by omega, by go_num, hB.trans (hb1.ofDr.mono hB.size)⟩
      case measure => simp [intOf]; omega
    · go_wp2
      go_ret
      exact ⟨rfl, hB⟩
theorem szBodyS_any (a : Option Addr) (n c : Nat) (w : World) (hn : (n : Int) ≤ 9223372036854775807) :
    Calls Tryz.prog 6 #[.slice a n c, .int .i64 1048576] w fun e w' => e = .returned (.int .i64 (if n ≤ 1048576 then 1048576 - (n : Int) else -1)) ∧ w' = w := by
  by_cases h : n ≤ 1048576
  · have h1 : ¬ (1048576 - (n : Int) < 0) := by omega
    have h2 : IntKind.i64.wrap (1048576 - (n : Int)) = 1048576 - (n : Int) := i64w (by omega)
    go_enter Tryz.func6, Tryz.ntmps6
    go_wp2
    go_ret
    exact ⟨by first | rfl | (rw [if_pos h]; rfl) | simp [h], rfl⟩
  · have h1 : (1048576 - (n : Int) < 0) := by omega
    have h2 : IntKind.i64.wrap (1048576 - (n : Int)) = 1048576 - (n : Int) := i64w (by omega)
    go_enter Tryz.func6, Tryz.ntmps6
    go_wp2
    go_ret
    exact ⟨by first | rfl | (rw [if_neg h]; rfl) | simp [h], rfl⟩
end Go.Proofs.YtlbpmmjckoaleaaGreat
