/- Texts of a proof. -/
import Derived.Test.YtalkkjhehndaoaaGreatS7n
import Derived.Test.YtalkkjhehndaoaaGreatSPdk
import Derived.Test.YtalkkjhehndaoaaGreatB17
import Derived.Deep.RegionHeld3
import Derived.Deep.DeepCutAuto
import Derived.Test.YtalkkjhehndaoaaGreatB11
set_option maxHeartbeats 16000000
set_option maxRecDepth 20000
namespace Go.Proofs.YtalkkjhehndaoaaGreat
open Go.RowKit
set_option linter.unusedVariables false
set_option linter.unusedSimpArgs false
theorem LV.up {w0 w wr : World} {t g cap n : Nat} {xs : List Value} (h : LV w wr t g cap n xs) (hb : Below w0.heap.size w0 w) : LV w0 wr t g cap n xs :=
 ⟨hb.trans (h.bel.mono hb.size), h.len, ⟨h.own.1, by
  rcases h.own.2 with q | ⟨g', cap', cur, hv, hb', rest⟩
  · exact .inl q
  · exact .inr ⟨g', cap', cur, hv, Nat.le_trans hb.size hb', rest⟩⟩⟩
def joinG (l : List Int) (A B : Nat) : List Int := (l.set A (if ofL l B < ofL l A then ofL l B else ofL l A)).set B (if ofL l B < ofL l A then ofL l B else ofL l A)
def joinL (U C : Nat → Int) (l : List Int) (k : Nat) : List Int :=
 bif decide (U ((C (k * 5)).toNat * 12 + 8) = 0) || decide (U ((C (k * 5 + 1)).toNat * 12 + 8) = 0) then l else joinG l (C (k * 5)).toNat (C (k * 5 + 1)).toNat
def grpI (U C : Nat → Int) (l : List Int) : Nat → List Int
 | 0 => l
 | k + 1 => joinL U C (grpI U C l k) k
def grpR (U C : Nat → Int) (m : Nat) (l : List Int) : Nat → List Int
 | 0 => l
 | r + 1 => grpI U C (grpR U C m l r) m
def rng : Nat → List Int
 | 0 => []
 | i + 1 => rng i ++ [(i : Int)]
theorem joinG_len (l : List Int) (A B : Nat) : (joinG l A B).length = l.length := by unfold joinG; rw [List.length_set, List.length_set]
theorem joinL_len (U C : Nat → Int) (l : List Int) (k : Nat) : (joinL U C l k).length = l.length := by
 unfold joinL
 generalize (decide (U ((C (k * 5)).toNat * 12 + 8) = 0) || decide (U ((C (k * 5 + 1)).toNat * 12 + 8) = 0)) = b
 cases b
 · exact joinG_len _ _ _
 · rfl
theorem grpI_len (U C : Nat → Int) (l : List Int) : ∀ k, (grpI U C l k).length = l.length
 | 0 => rfl
 | k + 1 => by rw [grpI, joinL_len, grpI_len U C l k]
theorem grpR_len (U C : Nat → Int) (m : Nat) (l : List Int) : ∀ r, (grpR U C m l r).length = l.length
 | 0 => rfl
 | r + 1 => by rw [grpR, grpI_len, grpR_len U C m l r]
theorem rng_len : ∀ n, (rng n).length = n
 | 0 => rfl
 | n + 1 => by rw [rng, List.length_append, rng_len n]; rfl
def grpL (U C : Nat → Int) (m n : Nat) : List Int := (numS U (ofL (grpR U C m (rng n) n)) n).1
theorem l7Groups_any (a : Option Addr) (n c : Nat) (U : Nat → Int) (ac : Option Addr) (m cc : Nat) (C : Nat → Int) (w : World) (h : Flat w a (n * 12) U) (hn : n ≤ 1000) (hm : m ≤ 1048576) (h2 : Flat w ac (m * 5) C) (hC : CtOk n m C) :
 Calls Tryz.prog 20 #[.slice a n c, .slice ac m cc] w fun e w' => ∃ g1 c1, e = .returned (.slice (some ⟨g1, 0, none⟩) n c1) ∧ LV w w' 3 g1 c1 n (IV (grpL U C m n)) := by
 have hset := cset_map
 have L1 := LV.new (w := w) 3 (Below.refl _ w) rfl
 go_enter Tryz.func20, Tryz.ntmps20
 go_upto_region 3 with fail
 go_loopw [5, 6] (fun s5 s6 wr => ∃ (i g1 c1 : Nat), i ≤ n ∧ s6 = .int .i64 (i : Int) ∧ s5 = .slice (some ⟨g1, 0, none⟩) i c1 ∧ LV w wr 3 g1 c1 i (IV (rng i))) (fun _ s6 _ => n - (intOf s6).toNat)
 case atStart => exact ⟨0, _, _, Nat.zero_le _, rfl, rfl, L1⟩
 case round =>
  clear L1
  obtain ⟨i, g1, c1, hi, rfl, rfl, H1⟩ := hrel
  by_cases hlt : i < n
  · have hin : (i : Int) < (n : Int) := by omega
    have hE : Below wr.heap.size wr (wr.alloc (Obj.cells #[.int .i64 (i : Int)] 3)) := (Below.refl _ _).alloc (Nat.le_refl _) _
    have hcE : (wr.alloc (Obj.cells #[.int .i64 (i : Int)] 3)).cell? ⟨wr.heap.size, 0, none⟩ = some (.int .i64 (i : Int)) := by go_simp
    have HR : Shut (rng (i + 1) = rng i ++ [(i : Int)]) := by show _ = _; rw [rng]
    go_wp2_with (refine wpList_push rfl _ _ _ rfl 3 8 zcInt Tryz.underlying25 infoInt rfl (by decide) g1 c1 i (IV (rng i)) rfl H1 hE wr.heap.size rfl (.int .i64 (i : Int)) hcE rfl (by omega) ?_; intro g5 c5 w5 hp5 hg5 hl5)
    go_roundw
    case rel => exact ⟨i + 1, g5, c5, by omega, by go_num, rfl, by rw [HR.out, ← IV_app]; exact hp5⟩
    case measure => simp [intOf]; omega
  · obtain rfl : n = i := by omega
    go_upto_region 7 with fail
    go_loopw [7, 8, 9, 10] (fun s7 _ _ _ wr => ∃ r : Nat, r ≤ n ∧ s7 = .int .i64 (r : Int) ∧ LV w wr 3 g1 c1 n (IV (grpR U C m (rng n) r))) (fun s7 _ _ _ _ => n - (intOf s7).toNat)
    case atStart => exact ⟨0, Nat.zero_le _, rfl, H1⟩
    case round =>
     clear H1
     obtain ⟨r, hr, rfl, H1⟩ := hrel
     by_cases hlr : r < n
     · have hri : (r : Int) < (n : Int) := by omega
       have HG : Shut (grpR U C m (rng n) (r + 1) = grpI U C (grpR U C m (rng n) r) m) := by show _ = _; rw [grpR]
       have hl0 : (grpR U C m (rng n) r).length = n := by rw [grpR_len, rng_len]
       generalize grpR U C m (rng n) r = l0 at H1 HG hl0
       go_upto_region 10 with fail
       go_loopw [8, 9, 10] (fun s8 _ _ wq => ∃ k : Nat, k ≤ m ∧ s8 = .int .i64 (k : Int) ∧ LV w wq 3 g1 c1 n (IV (grpI U C l0 k))) (fun s8 _ _ _ => m - (intOf s8).toNat)
       case atStart => exact ⟨0, Nat.zero_le _, rfl, H1⟩
       case round =>
        clear H1
        obtain ⟨k, hk, rfl, H1⟩ := hrel
        by_cases hlt : k < m
        · have hkm : (k : Int) < (m : Int) := by omega
          have ca := hC.a k hlt
          have cb := hC.b k hlt
          have cn := hC.ne k hlt
          obtain ⟨b1, o1, e1, hbl1, hc1⟩ := (h2.below H1.bel) (by omega)
          have r0 := hc1 (k * 5) (by omega)
          have r1 := hc1 (k * 5 + 1) (by omega)
          have r2 := hc1 (k * 5 + 2) (by omega)
          have r3 := hc1 (k * 5 + 3) (by omega)
          have r4 := hc1 (k * 5 + 4) (by omega)
          simp only [← Nat.add_assoc] at r0 r1 r2 r3 r4
          clear hc1
          subst e1
          have HJ : Shut (grpI U C l0 (k + 1) = joinL U C (grpI U C l0 k) k) := by show _ = _; rw [grpI]
          have hll : (grpI U C l0 k).length = n := by rw [grpI_len]; exact hl0
          obtain ⟨l, hl⟩ : ∃ l, grpI U C l0 k = l := ⟨_, rfl⟩
          rw [hl] at HJ H1 hll
          clear hl
          unfold joinL at HJ
          obtain ⟨A, hA⟩ : ∃ A : Nat, C (k * 5) = (A : Int) := ⟨(C (k * 5)).toNat, by omega⟩
          obtain ⟨B, hBB⟩ : ∃ B : Nat, C (k * 5 + 1) = (B : Int) := ⟨(C (k * 5 + 1)).toNat, by omega⟩
          rw [hA, hBB, Int.toNat_natCast, Int.toNat_natCast] at HJ
          rw [hA] at ca r0 cn
          rw [hBB] at cb r1 cn
          clear hA hBB
          have hAB : ¬ A = B := fun e => cn (by rw [e])
          have hBA : ¬ B = A := fun e => cn (by rw [e])
          clear cn
          have hAn : A < n := by omega
          have hBn : B < n := by omega
          have hAi : (A : Int) < (n : Int) := ca.2
          have hBi : (B : Int) < (n : Int) := cb.2
          obtain ⟨b0, o0, e0, hbl0, hc0⟩ := (h.below H1.bel) (by omega)
          have rA := hc0 (A * 12 + 8) (by omega)
          have rB := hc0 (B * 12 + 8) (by omega)
          simp only [← Nat.add_assoc] at rA rB
          clear hc0
          subst e0
          have hE : Below wr.heap.size wr (wr.alloc (Obj.cells #[.int .i64 (A : Int), .int .i64 (B : Int), .int .i64 (C (k * 5 + 2)), .int .i64 (C (k * 5 + 3)), .int .i64 (C (k * 5 + 4))] 40)) := (Below.refl _ _).alloc (Nat.le_refl _) _
          have HE := H1.on hE
          by_cases mA : U (A * 12 + 8) = 0
          · have em : (U (A * 12 + 8) == 0) = true := by simp [mA]
            rw [decide_eq_true mA] at HJ
            clear mA
            have HJ' : Shut (grpI U C l0 (k + 1) = l) := HJ.out
            go_wp2_with fail
            go_roundw
            case rel => exact ⟨k + 1, by omega, by go_num, by rw [HJ'.out]; exact HE⟩
            case measure => simp [intOf]; omega
          · have em : (U (A * 12 + 8) == 0) = false := by simp [mA]
            by_cases mB : U (B * 12 + 8) = 0
            · have em2 : (U (B * 12 + 8) == 0) = true := by simp [mB]
              rw [decide_eq_false mA, decide_eq_true mB] at HJ
              clear mA mB
              have HJ' : Shut (grpI U C l0 (k + 1) = l) := HJ.out
              go_wp2_with fail
              go_roundw
              case rel => exact ⟨k + 1, by omega, by go_num, by rw [HJ'.out]; exact HE⟩
              case measure => simp [intOf]; omega
            · have em2 : (U (B * 12 + 8) == 0) = false := by simp [mB]
              rw [decide_eq_false mA, decide_eq_false mB] at HJ
              clear mA mB
              have HJ' : Shut (grpI U C l0 (k + 1) = joinG l A B) := HJ.out
              unfold joinG at HJ'
              obtain ⟨gm, hgm⟩ : ∃ x, (if ofL l B < ofL l A then ofL l B else ofL l A) = x := ⟨_, rfl⟩
              rw [hgm] at HJ'
              go_upto_region 14 with fail
              have x0 : (wr.alloc (Obj.cells #[.int .i64 (A : Int), .int .i64 (B : Int), .int .i64 (C (k * 5 + 2)), .int .i64 (C (k * 5 + 3)), .int .i64 (C (k * 5 + 4))] 40)).cell? ⟨wr.heap.size, 0, none⟩ = some (.int .i64 (A : Int)) := by go_simp
              have x1 : (wr.alloc (Obj.cells #[.int .i64 (A : Int), .int .i64 (B : Int), .int .i64 (C (k * 5 + 2)), .int .i64 (C (k * 5 + 3)), .int .i64 (C (k * 5 + 4))] 40)).cell? ⟨wr.heap.size, 1, none⟩ = some (.int .i64 (B : Int)) := by go_simp
              have hgp := H1.lt
              generalize (wr.alloc (Obj.cells #[.int .i64 (A : Int), .int .i64 (B : Int), .int .i64 (C (k * 5 + 2)), .int .i64 (C (k * 5 + 3)), .int .i64 (C (k * 5 + 4))] 40)) = wx at hE HE x0 x1 ⊢
              have hbz := hE.size
              generalize wr.heap.size = bp at x0 x1 hgp ⊢
              have yA := HE.ic hAn
              have yB := HE.ic hBn
              have yf := HE.fro
              have hne : ¬ bp = g1 := by omega
              have hne' : ¬ g1 = bp := by omega
              clear r0 r1 r2 r3 r4 rA rB em em2 hE H1
              refine wp_region_held_drew (S := fun w' => w'.cell? ⟨bp, 0, none⟩ = some (.int .i64 (A : Int)) ∧ w'.cell? ⟨bp, 1, none⟩ = some (.int .i64 (B : Int)) ∧ w'.cell? ⟨g1, A, none⟩ = some (.int .i64 (ofL l A)) ∧ w'.cell? ⟨g1, B, none⟩ = some (.int .i64 (ofL l B))) (by kernel_rfl) ?_ (fun hHeld => ?_)
              · (try dsimp only)
                (first | (go_simp; done) | (go_keep; done))
              refine tq 0 hHeld ?_
              refine tq 1 hHeld ?_
              refine tq 2 hHeld ?_
              refine tq 3 hHeld ?_
              refine tq 4 hHeld ?_
              refine tq 5 hHeld ?_
              refine tq 6 hHeld ?_
              refine tq 7 hHeld ?_
              refine tq 8 hHeld ?_
              refine tq 9 hHeld ?_
              refine tc 10 fun K hK => ?_
              (go_simp
               (go_at_call 35; refine (l3Less_q (ofL l A) (ofL l B) gm _ hgm).mono ?_; rintro e w5 ⟨rfl, hw5⟩; subst hw5)
               (try go_wp2_with fail)
               refine tr hK (fun hHeld => ?_)
               clear hK K)
              refine tq 11 hHeld ?_
              refine wpAnyH_done (by kernel_rfl) ?_ _
              go_wp2_with fail
              have q1 := (HE.dr.set A (.int .i64 gm)).set B (.int .i64 gm)
              rw [IV_set, IV_set, ← HJ'.out] at q1
              go_roundw
              case rel => exact ⟨k + 1, by omega, by go_num, q1⟩
              case measure => simp [intOf]; omega
        · obtain rfl : k = m := by omega
          go_wp2_with fail
          go_roundw
          case rel => exact ⟨r + 1, by omega, by go_num, by rw [HG.out]; exact H1⟩
          case measure => simp [intOf]; omega
     · obtain rfl : r = n := by omega
       go_wp2_with (go_at_call 36; refine (l7Number_any a r c U (some ⟨g1, 0, none⟩) c1 (ofL (grpR U C m (rng r) r)) _ (h.below H1.bel) hn H1.flat).mono ?_; rintro e w5 ⟨g5, c5, rfl, hp5⟩)
       go_ret
       exact ⟨_, _, rfl, hp5.up H1.bel⟩
def FlatB (w : World) (a : Option Addr) (n : Nat) (A : Nat → Bool) : Prop := 0 < n → ∃ b o, a = some ⟨b, o, none⟩ ∧ b < w.heap.size ∧ ∀ j, j < n → w.cell? ⟨b, o + j, none⟩ = some (.bool (A j))
theorem FlatB.below {w w' : World} {a : Option Addr} {n B : Nat} {A : Nat → Bool} (h : FlatB w a n A) (hb : Below w.heap.size w w') : FlatB w' a n A := fun h0 => by
 obtain ⟨b, o, e, l, c⟩ := h h0
 exact ⟨b, o, e, Nat.lt_of_lt_of_le l hb.size, fun j hj => (hb.cell (p := ⟨b, o + j, none⟩) l).trans (c j hj)⟩
def wakeV (b : Bool) (V : Nat → Int) : Nat → Int := bif b && decide (8 ≤ V 11) then setV V 11 0 else V
def awK (G : Nat → Int) (A : Nat → Bool) (k : Nat) : Bool := decide (0 ≤ G k) && A (G k).toNat
theorem l9Wake_any (a : Option Addr) (n c : Nat) (U : Nat → Int) (ag : Option Addr) (cg : Nat) (G : Nat → Int) (aa : Option Addr) (na ca : Nat) (A : Nat → Bool) (w : World) (h : Flat w a (n * 12) U) (hn : n ≤ 1048576) (hG2 : Flat w ag (n * 1) G) (hA3 : FlatB w aa na A) (hGn : ∀ k, k < n → G k < (na : Int)) :
 Calls Tryz.prog 80 #[.slice a n c, .slice ag n cg, .slice aa na ca] w fun e w' => ∃ a1 c1, e = .returned (.slice a1 n c1) ∧ OutL w w' 34 12 a1 n c1 (mapR (fun i V => wakeV (awK G A i) V) U n) := by
 have hset := cset_map
 go_enter Tryz.func80, Tryz.ntmps80
 go_upto_region 1 with fail
 go_cut [7] (fun s0 wc => ∃ a1 c1, s0 = .slice a1 n c1 ∧ OutL w wc 34 12 a1 n c1 U)
 case first =>
  go_wp2_with (go_at_call 99; refine (l8Copy_any a n c U _ h hn).mono ?_; rintro e w3 ⟨a1, c1, rfl, hO⟩)
  go_meet
  exact ⟨_, _, rfl, hO⟩
 case rest =>
 obtain ⟨a1, c1, rfl, hO⟩ := hcut
 go_upto_region 3 with fail
 go_loopw [8] (fun s wr => ∃ k : Nat, k ≤ n ∧ s = .int .i64 (k : Int) ∧ OutL w wr 34 12 a1 n c1 (mapR (fun i V => wakeV (awK G A i) V) U k)) (fun s _ => n - (intOf s).toNat)
 case atStart => exact ⟨0, Nat.zero_le _, rfl, by rw [mapR_0]; exact hO⟩
 case round =>
  clear hO
  obtain ⟨k, hk, rfl, hO⟩ := hrel
  by_cases hlt : k < n
  · have hkn : (k : Int) < (n : Int) := by omega
    obtain ⟨g, rfl, hg1, hg2⟩ := hO.own.loc (by omega)
    have d0 : wr.cell? ⟨g, k * 12, none⟩ = some (.int .i64 (U (k * 12))) := by have q := hO.own.cellq (q := k * 12 + 0) (by omega); rw [mapR_row] at q; exact q
    have d1 : wr.cell? ⟨g, k * 12 + 1, none⟩ = some (.int .i64 (U (k * 12 + 1))) := by have q := hO.own.cellq (q := k * 12 + 1) (by omega); rw [mapR_row] at q; exact q
    have d2 : wr.cell? ⟨g, k * 12 + 2, none⟩ = some (.int .i64 (U (k * 12 + 2))) := by have q := hO.own.cellq (q := k * 12 + 2) (by omega); rw [mapR_row] at q; exact q
    have d3 : wr.cell? ⟨g, k * 12 + 3, none⟩ = some (.int .i64 (U (k * 12 + 3))) := by have q := hO.own.cellq (q := k * 12 + 3) (by omega); rw [mapR_row] at q; exact q
    have d4 : wr.cell? ⟨g, k * 12 + 4, none⟩ = some (.int .i64 (U (k * 12 + 4))) := by have q := hO.own.cellq (q := k * 12 + 4) (by omega); rw [mapR_row] at q; exact q
    have d5 : wr.cell? ⟨g, k * 12 + 5, none⟩ = some (.int .i64 (U (k * 12 + 5))) := by have q := hO.own.cellq (q := k * 12 + 5) (by omega); rw [mapR_row] at q; exact q
    have d6 : wr.cell? ⟨g, k * 12 + 6, none⟩ = some (.int .i64 (U (k * 12 + 6))) := by have q := hO.own.cellq (q := k * 12 + 6) (by omega); rw [mapR_row] at q; exact q
    have d7 : wr.cell? ⟨g, k * 12 + 7, none⟩ = some (.int .i64 (U (k * 12 + 7))) := by have q := hO.own.cellq (q := k * 12 + 7) (by omega); rw [mapR_row] at q; exact q
    have d8 : wr.cell? ⟨g, k * 12 + 8, none⟩ = some (.int .i64 (U (k * 12 + 8))) := by have q := hO.own.cellq (q := k * 12 + 8) (by omega); rw [mapR_row] at q; exact q
    have d9 : wr.cell? ⟨g, k * 12 + 9, none⟩ = some (.int .i64 (U (k * 12 + 9))) := by have q := hO.own.cellq (q := k * 12 + 9) (by omega); rw [mapR_row] at q; exact q
    have d10 : wr.cell? ⟨g, k * 12 + 10, none⟩ = some (.int .i64 (U (k * 12 + 10))) := by have q := hO.own.cellq (q := k * 12 + 10) (by omega); rw [mapR_row] at q; exact q
    have d11 : wr.cell? ⟨g, k * 12 + 11, none⟩ = some (.int .i64 (U (k * 12 + 11))) := by have q := hO.own.cellq (q := k * 12 + 11) (by omega); rw [mapR_row] at q; exact q
    have df := hO.own.fro
    obtain ⟨SL, hSL⟩ : ∃ b, decide (8 ≤ (fun j => U (k * 12 + j)) 11) = b := ⟨_, rfl⟩
    obtain ⟨b2, o2, e2, hbl2, hc2⟩ := (hG2.below hO.bel) (by omega)
    have r2 := hc2 k (by omega)
    clear hc2
    have hGk := hGn k hlt
    subst e2
    obtain ⟨gk, hgk⟩ : ∃ z, G k = z := ⟨_, rfl⟩
    rw [hgk] at r2 hGk
    by_cases hg0 : 0 ≤ gk
    · obtain ⟨b3, o3, e3, hbl3, hc3⟩ := hA3 (by omega)
      have r3 := (hO.bel.cell (p := ⟨b3, o3 + gk.toNat, none⟩) hbl3).trans (hc3 gk.toNat (by omega))
      clear hc3
      subst e3
      obtain ⟨aw, haw⟩ : ∃ z, A gk.toNat = z := ⟨_, rfl⟩
      have hak : awK G A k = aw := by unfold awK; rw [hgk, decide_eq_true hg0, Bool.true_and, haw]
      rw [haw] at r3
      have hgi : gk < (na : Int) := by omega
      clear hgk haw
      cases aw with
      | false =>
       have HNO : Shut (mapR (fun i V => wakeV (awK G A i) V) U (k + 1) = mapR (fun i V => wakeV (awK G A i) V) U k) := mapR_same (fun j hj => by show wakeV (awK G A k) (fun j => U (k * 12 + j)) j = _; unfold wakeV; rw [hak]; rfl)
       clear hak hSL
       go_wp2_with fail
       go_roundw
       case rel => exact ⟨k + 1, by omega, by go_num, by rw [HNO.out]; exact hO⟩
       case measure => simp [intOf]; omega
      | true =>
       cases SL with
       | false =>
        have HNO : Shut (mapR (fun i V => wakeV (awK G A i) V) U (k + 1) = mapR (fun i V => wakeV (awK G A i) V) U k) := mapR_same (fun j hj => by show wakeV (awK G A k) (fun j => U (k * 12 + j)) j = _; unfold wakeV; rw [hak, hSL]; rfl)
        clear hak
        go_wp2_with (go_at_call 47; refine (l6Sleeps_k (fun j => U (k * 12 + j)) _ false hSL).mono ?_; rintro e w4 ⟨rfl, hb4⟩)
        go_roundw
        case rel => exact ⟨k + 1, by omega, by go_num, by rw [HNO.out]; exact hO.on hb4⟩
        case measure => simp [intOf]; omega
       | true =>
        have HS : Shut ((fun r => if r = k * 12 + 11 then 0 else mapR (fun i V => wakeV (awK G A i) V) U k r) = mapR (fun i V => wakeV (awK G A i) V) U (k + 1)) := mapR_one (by omega) (fun i hi => by
         show wakeV (awK G A k) (fun j => U (k * 12 + j)) i = _
         unfold wakeV
         rw [hak, hSL]
         rfl)
        clear hak
        go_upto_region 6 with (go_at_call 47; refine (l6Sleeps_k (fun j => U (k * 12 + j)) _ true hSL).mono ?_; rintro e w4 ⟨rfl, hb4⟩)
        have hO4 := hO.on hb4
        have uf := hO4.own.fro
        have uc := hO4.own.cellq (q := k * 12 + 11) (by omega)
        go_wp2_with fail
        have hq := hO4.own.setq (k * 12 + 11) (by omega) 0
        rw [HS.out] at hq
        have hB5 : Below w.heap.size w (w4.setCell ⟨g, k * 12 + 11, none⟩ (.int .i64 0)) := hO4.bel.setCell hg1 _
        go_roundw
        case rel => exact ⟨k + 1, by omega, by go_num, hB5, hq⟩
        case measure => simp [intOf]; omega
    · have hak : awK G A k = false := by unfold awK; rw [hgk, decide_eq_false hg0, Bool.false_and]
      have HNO : Shut (mapR (fun i V => wakeV (awK G A i) V) U (k + 1) = mapR (fun i V => wakeV (awK G A i) V) U k) := mapR_same (fun j hj => by show wakeV (awK G A k) (fun j => U (k * 12 + j)) j = _; unfold wakeV; rw [hak]; rfl)
      clear hak hSL hgk
      go_wp2_with fail
      go_roundw
      case rel => exact ⟨k + 1, by omega, by go_num, by rw [HNO.out]; exact hO⟩
      case measure => simp [intOf]; omega
  · obtain rfl : k = n := by omega
    go_wp2_with fail
    go_ret
    exact ⟨_, _, rfl, hO⟩
end Go.Proofs.YtalkkjhehndaoaaGreat
