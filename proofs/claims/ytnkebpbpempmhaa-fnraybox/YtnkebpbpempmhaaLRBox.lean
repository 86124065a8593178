/- The walk of the law of promise 27. -/
import Derived.Test.YtnkebpbpempmhaaDrawR5
import Derived.Test.YtnkebpbpempmhaaRayRS
import Derived.Test.YtnkebpbpempmhaaRayIn
import Derived.Test.YtnkebpbpempmhaaSpanH
import Derived.Test.YtnkebpbpempmhaaPqAbs
import Derived.Handy
import Derived.Deep.RegionHeld3
import Derived.Deep.DeepCutAuto
namespace Go.Proofs.Ytnkebpbpempmhaa
open Go.RowKit
set_option linter.unusedVariables false
set_option linter.unusedSimpArgs false

theorem rbox_q (x y u v p q r t F : Int) (K : Bool) (w : World) (e1 : rbF x y u v p q r t = F) (e2 : rbK x y u v p q r t = K) :
    Calls Try.prog 26 #[b4 x y u v, b4 p q r t] w fun e w' => e = .returned (.tuple #[.int .i64 F, .bool K]) ∧ Below w.heap.size w w' := by
  subst e1; subst e2; exact rayBox_any x y u v p q r t w

theorem srbox_q (x y u v p q r t F : Int) (K : Bool) (w : World) (e1 : rbF x y u v p q r t = F) (e2 : rbK x y u v p q r t = K) :
    Calls Try.prog 27 #[b4 x y u v, b4 p q r t] w fun e w' => e = .returned (.tuple #[.int .i64 F, .bool K]) ∧ Below w.heap.size w w' := by
  subst e1; subst e2; exact sRayBox_any x y u v p q r t w
theorem sbok_q (p q r t : Int) (b : Bool) (w : World) (e : bokB p q r t = b) : Calls Try.prog 14 #[b4 p q r t] w fun e w' => e = .returned (.bool b) ∧ Below w.heap.size w w' := by
  subst e; exact sBoxOk_any p q r t w
theorem bhas_q (a b c d r s t u : Int) (z : Bool) (w : World) (e : (bokB a b c d && (bokB r s t u && (leB a b r s && leB t u c d))) = z) :
    Calls Try.prog 16 #[b4 a b c d, b4 r s t u] w fun e w' => e = .returned (.bool z) ∧ Below w.heap.size w w' := by
  subst e; exact boxHas_any a b c d r s t u w
theorem absR {n : Int} (h : decide (2560000 < absZ n) = false) : -2560000 ≤ n ∧ n ≤ 2560000 := by
  have h := of_decide_eq_false h
  unfold absZ at h; split at h <;> omega
theorem rbK_not {x y u v p q r t : Int} (h : bokB p q r t = false) : rbK x y u v p q r t = false := by
  unfold rbK; rw [h]; simp
theorem rbK_still {x y p q r t : Int} : rbK x y 0 0 p q r t = false := by
  unfold rbK rayB; simp
theorem rbF_bd {x y u v p q r t : Int} (h : rbK x y u v p q r t = true) : 0 ≤ rbF x y u v p q r t ∧ rbF x y u v p q r t ≤ 256 := by
  unfold rbF
  rw [if_pos h]
  unfold rbK at h
  simp only [Bool.and_eq_true] at h
  have hk := h.2.2.2.2
  unfold rsF
  rw [if_pos hk]
  unfold rsK at hk
  simp only [Bool.and_eq_true, Bool.not_eq_true', decide_eq_false_iff_not] at hk
  obtain ⟨_, a, _, b⟩ := hk
  revert b
  unfold msF msL
  intro b
  constructor <;> repeat' split
  all_goals (repeat' split at b)
  all_goals omega
theorem rb_in {x y u v p q r t k : Int} (k0 : 0 ≤ k) (k1 : k ≤ 256) (h : (rayB x y u v && (bokB p q r t && (inB 2560000 p q && inB 2560000 r t))) = true) (a : (p - x) * 256 ≤ u * k) (b : u * k ≤ (r - x) * 256) (c : (q - y) * 256 ≤ v * k) (d : v * k ≤ (t - y) * 256) :
    rbK x y u v p q r t = true ∧ rbF x y u v p q r t ≤ k := by
  obtain ⟨e1, e2, e3⟩ := rsK_in k0 k1 a b c d
  simp only [Bool.and_eq_true] at h
  have hk : rbK x y u v p q r t = true := by unfold rbK; rw [h.1, h.2.1, h.2.2.1, h.2.2.2, e1]; rfl
  refine ⟨hk, ?_⟩
  unfold rbF
  rw [if_pos hk]
  exact e3
set_option maxRecDepth 20000 in
set_option maxHeartbeats 16000000 in
theorem fnRayBox_walk (a : Option Addr) (len cap : Nat) (w : World) (hb : Bytes w a len cap) :
    Calls Try.prog 7 #[.slice a len cap] w fun e w' => e = .returned (.bool true) ∧ Below w.heap.size w w' := by
  have hset := cset_map
  go_enter Try.func7, Try.ntmps7
  go_upto_region 4 with (go_at_call 25; refine (drawRayBox_any _ _ _ _ hb).mono ?_; rintro e w1 ⟨V, p, q, r, t, rfl, hd, ⟨hp, hq, hr, ht⟩, hb1⟩)
  · go_wp2_with fail
    go_ret
    exact ⟨rfl, Below.refl _ _⟩
  have a0 : Al w ((w1.alloc (.cells #[.int .i64 (V 0), .int .i64 (V 1), .int .i64 (V 2), .int .i64 (V 3)] 47)).alloc (.cells #[.int .i64 p, .int .i64 q, .int .i64 r, .int .i64 t] 26)) w1.heap.size 4 V := (Al.new hb1.size (by intro i hi; rcases (show i = 0 ∨ i = 1 ∨ i = 2 ∨ i = 3 by omega) with rfl | rfl | rfl | rfl <;> rfl)).belw (but_bel rfl) (by simp)
  have b0 : Al w ((w1.alloc (.cells #[.int .i64 (V 0), .int .i64 (V 1), .int .i64 (V 2), .int .i64 (V 3)] 47)).alloc (.cells #[.int .i64 p, .int .i64 q, .int .i64 r, .int .i64 t] 26)) (w1.heap.size + 1) 4 (fun j => [p, q, r, t].getD j 0) := by
    have h := Al.new (w0 := w) (w := w1.alloc (.cells #[.int .i64 (V 0), .int .i64 (V 1), .int .i64 (V 2), .int .i64 (V 3)] 47)) (cs := #[.int .i64 p, .int .i64 q, .int .i64 r, .int .i64 t]) (t := 26) (n := 4) (V := fun j => [p, q, r, t].getD j 0) (by have := hb1.size; simp; omega) (by intro i hi; rcases (show i = 0 ∨ i = 1 ∨ i = 2 ∨ i = 3 by omega) with rfl | rfl | rfl | rfl <;> rfl)
    simpa using h
  have hbx : Below w.heap.size w ((w1.alloc (.cells #[.int .i64 (V 0), .int .i64 (V 1), .int .i64 (V 2), .int .i64 (V 3)] 47)).alloc (.cells #[.int .i64 p, .int .i64 q, .int .i64 r, .int .i64 t] 26)) := (hb1.alloc hb1.size _).alloc (by have := hb1.size; simp; omega) _
  generalize ((w1.alloc (.cells #[.int .i64 (V 0), .int .i64 (V 1), .int .i64 (V 2), .int .i64 (V 3)] 47)).alloc (.cells #[.int .i64 p, .int .i64 q, .int .i64 r, .int .i64 t] 26)) = wa at *
  generalize hbb : w1.heap.size + 1 = bb at *
  generalize hab : w1.heap.size = ab at *
  clear hbb hab hb1 w1
  obtain ⟨x, ex⟩ : ∃ x, V 0 = x := ⟨_, rfl⟩
  obtain ⟨y, ey⟩ : ∃ y, V 1 = y := ⟨_, rfl⟩
  obtain ⟨c, ec⟩ : ∃ c, V 2 = c := ⟨_, rfl⟩
  obtain ⟨d, ed⟩ : ∃ d, V 3 = d := ⟨_, rfl⟩
  obtain ⟨hd0, hd2, hd3⟩ := hd
  have hx := hd0 0 (by omega)
  have hy := hd0 1 (by omega)
  rw [ex] at hx
  rw [ey] at hy
  rw [ec] at hd2
  rw [ed] at hd3
  have k0 := a0
  have ac0 := (a0).2.2.1 0 (by omega)
  have af0 := (a0).2.2.2 0 (by omega)
  have ac1 := (a0).2.2.1 1 (by omega)
  have af1 := (a0).2.2.2 1 (by omega)
  have ac2 := (a0).2.2.1 2 (by omega)
  have af2 := (a0).2.2.2 2 (by omega)
  have ac3 := (a0).2.2.1 3 (by omega)
  have af3 := (a0).2.2.2 3 (by omega)
  have bc0 := (b0).2.2.1 0 (by omega)
  have bf0 := (b0).2.2.2 0 (by omega)
  have bc1 := (b0).2.2.1 1 (by omega)
  have bf1 := (b0).2.2.2 1 (by omega)
  have bc2 := (b0).2.2.1 2 (by omega)
  have bf2 := (b0).2.2.2 2 (by omega)
  have bc3 := (b0).2.2.1 3 (by omega)
  have bf3 := (b0).2.2.2 3 (by omega)
  rw [ex] at ac0
  rw [ey] at ac1
  rw [ec] at ac2
  rw [ed] at ac3
  have hq0 : ab < wa.heap.size := a0.2.1
  have hq1 : bb < wa.heap.size := b0.2.1
  have hq2 : w.heap.size ≤ wa.heap.size := hbx.size
  clear k0 a0 b0 ex ey ec ed hd0
  obtain ⟨⟨hx1, hx2⟩, ⟨hy1, hy2⟩, ⟨hp1, hp2⟩, ⟨hq1', hq2'⟩, ⟨hr1, hr2⟩, ht1, ht2⟩ := And.intro hx (And.intro hy (And.intro hp (And.intro hq (And.intro hr ht))))
  clear hx hy hp hq hr ht
  obtain ⟨F, e5⟩ : ∃ z, rbF x y c d p q r t = z := ⟨_, rfl⟩
  obtain ⟨K, e6⟩ : ∃ z, rbK x y c d p q r t = z := ⟨_, rfl⟩
  go_upto_region 6 with (first
    | (go_at_call 27; refine (srbox_q x y c d p q r t F K _ e5 e6).mono ?_; rintro e w3 ⟨rfl, hb3⟩; obtain ⟨hc3, hf3⟩ := bcell hb3; have hz3 := hb3.size; (try simp only [World.size_drew, World.size_alloc, World.size_setCell] at hc3 hf3 hz3); have hk3x0 := fun o => hc3 (ab) o (by omega); have hj3x0 := fun o => hf3 (ab) o (by omega); have hq3x0 : ab < w3.heap.size := (by omega); have hk3x1 := fun o => hc3 (bb) o (by omega); have hj3x1 := fun o => hf3 (bb) o (by omega); have hq3x1 : bb < w3.heap.size := (by omega); clear hc3 hf3)
    | (go_at_call 26; refine (rbox_q x y c d p q r t F K _ e5 e6).mono ?_; rintro e w2 ⟨rfl, hb2⟩; obtain ⟨hc2, hf2⟩ := bcell hb2; have hz2 := hb2.size; (try simp only [World.size_drew, World.size_alloc, World.size_setCell] at hc2 hf2 hz2); have hk2x0 := fun o => hc2 (ab) o (by omega); have hj2x0 := fun o => hf2 (ab) o (by omega); have hq2x0 : ab < w2.heap.size := (by omega); have hk2x1 := fun o => hc2 (bb) o (by omega); have hj2x1 := fun o => hf2 (bb) o (by omega); have hq2x1 : bb < w2.heap.size := (by omega); clear hc2 hf2))
  cases bo : bokB p q r t with
  | false =>
    have e7 := rbK_not (x := x) (y := y) (u := c) (v := d) bo
    rw [e6] at e7
    subst e7
    clear e5 e6
    go_wp2_with (go_at_call 14; refine (sbok_q p q r t _ _ bo).mono ?_; rintro e w4 ⟨rfl, hb4⟩; obtain ⟨hc4, hf4⟩ := bcell hb4; have hz4 := hb4.size; (try simp only [World.size_drew, World.size_alloc, World.size_setCell] at hc4 hf4 hz4); have hk4x0 := fun o => hc4 (ab) o (by omega); have hj4x0 := fun o => hf4 (ab) o (by omega); have hq4x0 : ab < w4.heap.size := (by omega); have hk4x1 := fun o => hc4 (bb) o (by omega); have hj4x1 := fun o => hf4 (bb) o (by omega); have hq4x1 : bb < w4.heap.size := (by omega); clear hc4 hf4)
    go_ret
    exact ⟨rfl, by repeat (first | with_reducible apply Below.refl | (with_reducible apply Below.setCell; rotate_left; focus (first | omega | (simp; done) | (simp; omega))) | (with_reducible apply Below.alloc; rotate_left; focus (first | omega | (simp; done) | (simp; omega))) | with_reducible apply Below.drew | with_reducible apply belowDrewN | (with_reducible apply Below.trans; rotate_left; with_reducible apply Below.mono; with_reducible assumption; focus (first | omega | (simp; done) | (simp; omega))))⟩
  | true =>
    by_cases st : c = 0 ∧ d = 0
    · obtain ⟨rfl, rfl⟩ := st
      have e7 := rbK_still (x := x) (y := y) (p := p) (q := q) (r := r) (t := t)
      rw [e6] at e7
      subst e7
      clear e5 e6
      go_wp2_with (go_at_call 14; refine (sbok_q p q r t _ _ bo).mono ?_; rintro e w4 ⟨rfl, hb4⟩; obtain ⟨hc4, hf4⟩ := bcell hb4; have hz4 := hb4.size; (try simp only [World.size_drew, World.size_alloc, World.size_setCell] at hc4 hf4 hz4); have hk4x0 := fun o => hc4 (ab) o (by omega); have hj4x0 := fun o => hf4 (ab) o (by omega); have hq4x0 : ab < w4.heap.size := (by omega); have hk4x1 := fun o => hc4 (bb) o (by omega); have hj4x1 := fun o => hf4 (bb) o (by omega); have hq4x1 : bb < w4.heap.size := (by omega); clear hc4 hf4)
      go_ret
      exact ⟨rfl, by repeat (first | with_reducible apply Below.refl | (with_reducible apply Below.setCell; rotate_left; focus (first | omega | (simp; done) | (simp; omega))) | (with_reducible apply Below.alloc; rotate_left; focus (first | omega | (simp; done) | (simp; omega))) | with_reducible apply Below.drew | with_reducible apply belowDrewN | (with_reducible apply Below.trans; rotate_left; with_reducible apply Below.mono; with_reducible assumption; focus (first | omega | (simp; done) | (simp; omega))))⟩
    · have sn : (c = 0 ∧ d = 0) = False := eq_false st
      have hS : Shut (∀ k : Int, 0 ≤ k → k ≤ 256 → inB 2560000 x y = true → inB 2560000 p q = true → inB 2560000 r t = true → (p - x) * 256 ≤ c * k → c * k ≤ (r - x) * 256 → (q - y) * 256 ≤ d * k → d * k ≤ (t - y) * 256 → K = true ∧ F ≤ k) := by
        intro k k0 k1 i1 i2 i3 g1 g2 g3 g4
        have ra : rayB x y c d = true := by
          unfold rayB
          rw [i1, show inB 2560000 c d = true by unfold inB; simp only [decide_eq_true_eq]; omega, decide_eq_false st]; rfl
        have z := rb_in k0 k1 (by rw [ra, bo, i2, i3]; rfl) g1 g2 g3 g4
        rw [e5, e6] at z
        exact z
      have hB : K = true → 0 ≤ F ∧ F ≤ 256 := by
        intro hK
        have z := rbF_bd (e6.trans hK)
        rw [e5] at z; exact z
      have nz : c ≠ 0 ∨ d ≠ 0 := by omega
      clear e5 e6 st sn
      go_cut [62] (fun s62 wx => s62 = .bool false ∧ (wx.cell? ⟨ab, 0, none⟩ = some (.int .i64 x) ∧ wx.cell? ⟨ab, 1, none⟩ = some (.int .i64 y) ∧ wx.cell? ⟨ab, 2, none⟩ = some (.int .i64 c) ∧ wx.cell? ⟨ab, 3, none⟩ = some (.int .i64 d) ∧ wx.cell? ⟨bb, 0, none⟩ = some (.int .i64 p) ∧ wx.cell? ⟨bb, 1, none⟩ = some (.int .i64 q) ∧ wx.cell? ⟨bb, 2, none⟩ = some (.int .i64 r) ∧ wx.cell? ⟨bb, 3, none⟩ = some (.int .i64 t)) ∧ (ab < wx.heap.size ∧ bb < wx.heap.size) ∧ w.heap.size ≤ wx.heap.size ∧ Below w.heap.size w wx)
      case first =>
        clear hS
        cases K with
        | true =>
          obtain ⟨f0, f1⟩ := hB rfl
          clear hB
          have g0 : decide (F < 0) = false := decide_eq_false (by omega)
          have g1 : decide (256 < F) = false := decide_eq_false (by omega)
          rcases nz with nz | nz
          · have nf : (c = 0) = False := eq_false nz
            go_wp2_with (go_at_call 14; refine (sbok_q p q r t _ _ bo).mono ?_; rintro e w4 ⟨rfl, hb4⟩; obtain ⟨hc4, hf4⟩ := bcell hb4; have hz4 := hb4.size; (try simp only [World.size_drew, World.size_alloc, World.size_setCell] at hc4 hf4 hz4); have hk4x0 := fun o => hc4 (ab) o (by omega); have hj4x0 := fun o => hf4 (ab) o (by omega); have hq4x0 : ab < w4.heap.size := (by omega); have hk4x1 := fun o => hc4 (bb) o (by omega); have hj4x1 := fun o => hf4 (bb) o (by omega); have hq4x1 : bb < w4.heap.size := (by omega); clear hc4 hf4)
            go_meet
            exact ⟨rfl, ⟨(by go_simp), (by go_simp), (by go_simp), (by go_simp), (by go_simp), (by go_simp), (by go_simp), (by go_simp)⟩, ⟨(by first | omega | (simp; omega)), (by first | omega | (simp; omega))⟩, (by first | omega | (simp; omega)), by repeat (first | with_reducible apply Below.refl | (with_reducible apply Below.setCell; rotate_left; focus (first | omega | (simp; done) | (simp; omega))) | (with_reducible apply Below.alloc; rotate_left; focus (first | omega | (simp; done) | (simp; omega))) | with_reducible apply Below.drew | with_reducible apply belowDrewN | (with_reducible apply Below.trans; rotate_left; with_reducible apply Below.mono; with_reducible assumption; focus (first | omega | (simp; done) | (simp; omega))))⟩
          · have nf : (d = 0) = False := eq_false nz
            go_wp2_with (go_at_call 14; refine (sbok_q p q r t _ _ bo).mono ?_; rintro e w4 ⟨rfl, hb4⟩; obtain ⟨hc4, hf4⟩ := bcell hb4; have hz4 := hb4.size; (try simp only [World.size_drew, World.size_alloc, World.size_setCell] at hc4 hf4 hz4); have hk4x0 := fun o => hc4 (ab) o (by omega); have hj4x0 := fun o => hf4 (ab) o (by omega); have hq4x0 : ab < w4.heap.size := (by omega); have hk4x1 := fun o => hc4 (bb) o (by omega); have hj4x1 := fun o => hf4 (bb) o (by omega); have hq4x1 : bb < w4.heap.size := (by omega); clear hc4 hf4)
            go_meet
            exact ⟨rfl, ⟨(by go_simp), (by go_simp), (by go_simp), (by go_simp), (by go_simp), (by go_simp), (by go_simp), (by go_simp)⟩, ⟨(by first | omega | (simp; omega)), (by first | omega | (simp; omega))⟩, (by first | omega | (simp; omega)), by repeat (first | with_reducible apply Below.refl | (with_reducible apply Below.setCell; rotate_left; focus (first | omega | (simp; done) | (simp; omega))) | (with_reducible apply Below.alloc; rotate_left; focus (first | omega | (simp; done) | (simp; omega))) | with_reducible apply Below.drew | with_reducible apply belowDrewN | (with_reducible apply Below.trans; rotate_left; with_reducible apply Below.mono; with_reducible assumption; focus (first | omega | (simp; done) | (simp; omega))))⟩
        | false =>
          clear hB
          rcases nz with nz | nz
          · have nf : (c = 0) = False := eq_false nz
            go_wp2_with (go_at_call 14; refine (sbok_q p q r t _ _ bo).mono ?_; rintro e w4 ⟨rfl, hb4⟩; obtain ⟨hc4, hf4⟩ := bcell hb4; have hz4 := hb4.size; (try simp only [World.size_drew, World.size_alloc, World.size_setCell] at hc4 hf4 hz4); have hk4x0 := fun o => hc4 (ab) o (by omega); have hj4x0 := fun o => hf4 (ab) o (by omega); have hq4x0 : ab < w4.heap.size := (by omega); have hk4x1 := fun o => hc4 (bb) o (by omega); have hj4x1 := fun o => hf4 (bb) o (by omega); have hq4x1 : bb < w4.heap.size := (by omega); clear hc4 hf4)
            go_meet
            exact ⟨rfl, ⟨(by go_simp), (by go_simp), (by go_simp), (by go_simp), (by go_simp), (by go_simp), (by go_simp), (by go_simp)⟩, ⟨(by first | omega | (simp; omega)), (by first | omega | (simp; omega))⟩, (by first | omega | (simp; omega)), by repeat (first | with_reducible apply Below.refl | (with_reducible apply Below.setCell; rotate_left; focus (first | omega | (simp; done) | (simp; omega))) | (with_reducible apply Below.alloc; rotate_left; focus (first | omega | (simp; done) | (simp; omega))) | with_reducible apply Below.drew | with_reducible apply belowDrewN | (with_reducible apply Below.trans; rotate_left; with_reducible apply Below.mono; with_reducible assumption; focus (first | omega | (simp; done) | (simp; omega))))⟩
          · have nf : (d = 0) = False := eq_false nz
            go_wp2_with (go_at_call 14; refine (sbok_q p q r t _ _ bo).mono ?_; rintro e w4 ⟨rfl, hb4⟩; obtain ⟨hc4, hf4⟩ := bcell hb4; have hz4 := hb4.size; (try simp only [World.size_drew, World.size_alloc, World.size_setCell] at hc4 hf4 hz4); have hk4x0 := fun o => hc4 (ab) o (by omega); have hj4x0 := fun o => hf4 (ab) o (by omega); have hq4x0 : ab < w4.heap.size := (by omega); have hk4x1 := fun o => hc4 (bb) o (by omega); have hj4x1 := fun o => hf4 (bb) o (by omega); have hq4x1 : bb < w4.heap.size := (by omega); clear hc4 hf4)
            go_meet
            exact ⟨rfl, ⟨(by go_simp), (by go_simp), (by go_simp), (by go_simp), (by go_simp), (by go_simp), (by go_simp), (by go_simp)⟩, ⟨(by first | omega | (simp; omega)), (by first | omega | (simp; omega))⟩, (by first | omega | (simp; omega)), by repeat (first | with_reducible apply Below.refl | (with_reducible apply Below.setCell; rotate_left; focus (first | omega | (simp; done) | (simp; omega))) | (with_reducible apply Below.alloc; rotate_left; focus (first | omega | (simp; done) | (simp; omega))) | with_reducible apply Below.drew | with_reducible apply belowDrewN | (with_reducible apply Below.trans; rotate_left; with_reducible apply Below.mono; with_reducible assumption; focus (first | omega | (simp; done) | (simp; omega))))⟩
      case rest =>
      clear hB nz
      obtain ⟨rfl, ⟨c0, c1, c2, c3, c4, c5, c6, c7⟩, ⟨l1, l2⟩, l3, hbw⟩ := hcut
      generalize hwd : wc = w4 at *
      clear hwd
      go_upto_region 8 with fail
      go_cut [9] (fun s9 wc => ∃ b : Bool, s9 = .bool b ∧ (b = false → (-2560000 ≤ p ∧ p ≤ 2560000) ∧ (-2560000 ≤ q ∧ q ≤ 2560000) ∧ (-2560000 ≤ r ∧ r ≤ 2560000) ∧ (-2560000 ≤ t ∧ t ≤ 2560000) ∧ (-2560000 ≤ x ∧ x ≤ 2560000) ∧ (-2560000 ≤ y ∧ y ≤ 2560000)) ∧ wc = w4)
      case first =>
        cases d1 : decide (2560000 < absZ p) with
        | true =>
          go_wp2_with (go_at_call 28; refine (pqAbs_any _ _ (by omega) (by omega)).mono ?_; rintro e w' ⟨rfl, rfl⟩)
          go_meet
          exact ⟨true, rfl, fun q => Bool.noConfusion q, rfl⟩
        | false =>
          cases d2 : decide (2560000 < absZ q) with
          | true =>
            go_wp2_with (go_at_call 28; refine (pqAbs_any _ _ (by omega) (by omega)).mono ?_; rintro e w' ⟨rfl, rfl⟩)
            go_meet
            exact ⟨true, rfl, fun q => Bool.noConfusion q, rfl⟩
          | false =>
            cases d3 : decide (2560000 < absZ r) with
            | true =>
              go_wp2_with (go_at_call 28; refine (pqAbs_any _ _ (by omega) (by omega)).mono ?_; rintro e w' ⟨rfl, rfl⟩)
              go_meet
              exact ⟨true, rfl, fun q => Bool.noConfusion q, rfl⟩
            | false =>
              cases d4 : decide (2560000 < absZ t) with
              | true =>
                go_wp2_with (go_at_call 28; refine (pqAbs_any _ _ (by omega) (by omega)).mono ?_; rintro e w' ⟨rfl, rfl⟩)
                go_meet
                exact ⟨true, rfl, fun q => Bool.noConfusion q, rfl⟩
              | false =>
                cases d5 : decide (2560000 < absZ x) with
                | true =>
                  go_wp2_with (go_at_call 28; refine (pqAbs_any _ _ (by omega) (by omega)).mono ?_; rintro e w' ⟨rfl, rfl⟩)
                  go_meet
                  exact ⟨true, rfl, fun q => Bool.noConfusion q, rfl⟩
                | false =>
                  cases d6 : decide (2560000 < absZ y) with
                  | true =>
                    go_wp2_with (go_at_call 28; refine (pqAbs_any _ _ (by omega) (by omega)).mono ?_; rintro e w' ⟨rfl, rfl⟩)
                    go_meet
                    exact ⟨true, rfl, fun q => Bool.noConfusion q, rfl⟩
                  | false =>
                    go_wp2_with (go_at_call 28; refine (pqAbs_any _ _ (by omega) (by omega)).mono ?_; rintro e w' ⟨rfl, rfl⟩)
                    go_meet
                    exact ⟨false, rfl, fun _ => ⟨absR d1, absR d2, absR d3, absR d4, absR d5, absR d6⟩, rfl⟩
      case rest =>
      obtain ⟨b, rfl, hfar, rfl⟩ := hcut
      cases b with
      | true =>
        clear hS hfar
        go_wp2_with fail
        refine wp_loop_rounds 1 ?_
        rw [rounds_succ]
        go_wp2_with fail
        go_ret
        exact ⟨rfl, by repeat (first | with_reducible apply Below.refl | (with_reducible apply Below.setCell; rotate_left; focus (first | omega | (simp; done) | (simp; omega))) | (with_reducible apply Below.alloc; rotate_left; focus (first | omega | (simp; done) | (simp; omega))) | with_reducible apply Below.drew | with_reducible apply belowDrewN | (with_reducible apply Below.trans; rotate_left; with_reducible apply Below.mono; with_reducible assumption; focus (first | omega | (simp; done) | (simp; omega))))⟩
      | false =>
        obtain ⟨bp, bq, br, bt, bx, by'⟩ := hfar rfl
        clear hfar
        go_wp2_with fail
        go_loopg [10] 257 (fun n s wx => ∃ k : Int, s = .int .i64 k ∧ k + n = 257 ∧ 0 ≤ k ∧ (wx.cell? ⟨ab, 0, none⟩ = some (.int .i64 x) ∧ wx.cell? ⟨ab, 1, none⟩ = some (.int .i64 y) ∧ wx.cell? ⟨ab, 2, none⟩ = some (.int .i64 c) ∧ wx.cell? ⟨ab, 3, none⟩ = some (.int .i64 d) ∧ wx.cell? ⟨bb, 0, none⟩ = some (.int .i64 p) ∧ wx.cell? ⟨bb, 1, none⟩ = some (.int .i64 q) ∧ wx.cell? ⟨bb, 2, none⟩ = some (.int .i64 r) ∧ wx.cell? ⟨bb, 3, none⟩ = some (.int .i64 t)) ∧ (ab < wx.heap.size ∧ bb < wx.heap.size) ∧ w.heap.size ≤ wx.heap.size ∧ Below w.heap.size w wx)
        case atStart => exact ⟨0, rfl, by omega, by omega, ⟨(by go_simp), (by go_simp), (by go_simp), (by go_simp), (by go_simp), (by go_simp), (by go_simp), (by go_simp)⟩, ⟨(by first | omega | (simp; omega)), (by first | omega | (simp; omega))⟩, (by first | omega | (simp; omega)), by repeat (first | with_reducible apply Below.refl | (with_reducible apply Below.setCell; rotate_left; focus (first | omega | (simp; done) | (simp; omega))) | (with_reducible apply Below.alloc; rotate_left; focus (first | omega | (simp; done) | (simp; omega))) | with_reducible apply Below.drew | with_reducible apply belowDrewN | (with_reducible apply Below.trans; rotate_left; with_reducible apply Below.mono; with_reducible assumption; focus (first | omega | (simp; done) | (simp; omega))))⟩
        case round =>
          obtain ⟨k, rfl, hkn, k0, ⟨c0, c1, c2, c3, c4, c5, c6, c7⟩, ⟨l1, l2⟩, l3, hbw⟩ := hrel
          cases gk with
          | zero =>
            have hk9 : k = 257 := by omega
            subst hk9
            clear hS
            go_wp2_with fail
            go_ret
            exact ⟨rfl, by repeat (first | with_reducible apply Below.refl | (with_reducible apply Below.setCell; rotate_left; focus (first | omega | (simp; done) | (simp; omega))) | (with_reducible apply Below.alloc; rotate_left; focus (first | omega | (simp; done) | (simp; omega))) | with_reducible apply Below.drew | with_reducible apply belowDrewN | (with_reducible apply Below.trans; rotate_left; with_reducible apply Below.mono; with_reducible assumption; focus (first | omega | (simp; done) | (simp; omega))))⟩
          | succ n =>
            have hk9 : k ≤ 256 := by omega
            have d7 : decide (k ≤ 256) = true := decide_eq_true hk9
            have m1 := mul_bd (a := c) (b := k) (A := 2560000) (B := 256) (by omega) (by omega)
            have m2 := mul_bd (a := d) (b := k) (A := 2560000) (B := 256) (by omega) (by omega)
            have t1 := td256 (x := c * k) (B := 2560000) (by omega)
            have t2 := td256 (x := d * k) (B := 2560000) (by omega)
            have u1 := Int.mul_tdiv_add_tmod (c * k) 256
            have u2 := Int.mul_tdiv_add_tmod (d * k) 256
            have w1 := i64w (n := c * k) (by omega)
            have w2 := i64w (n := d * k) (by omega)
            obtain ⟨qx, e1⟩ : ∃ z, (c * k).tdiv 256 = z := ⟨_, rfl⟩
            obtain ⟨qy, e2⟩ : ∃ z, (d * k).tdiv 256 = z := ⟨_, rfl⟩
            obtain ⟨mx, e3⟩ : ∃ z, (c * k).tmod 256 = z := ⟨_, rfl⟩
            obtain ⟨my, e4⟩ : ∃ z, (d * k).tmod 256 = z := ⟨_, rfl⟩
            rw [e1] at t1 u1
            rw [e2] at t2 u2
            rw [e3] at u1
            rw [e4] at u2
            obtain ⟨P, e7⟩ : ∃ z, x + qx = z := ⟨_, rfl⟩
            obtain ⟨Q, e8⟩ : ∃ z, y + qy = z := ⟨_, rfl⟩
            have w3 := i64w (n := x + qx) (by omega)
            have w5 := i64w (n := y + qy) (by omega)
            rw [e7] at w3
            rw [e8] at w5
            have w6 := i64w (n := k + 1) (by omega)
            cases x1 : (mx == 0) with
            | false =>
              clear u1 u2 hS
              go_wp2_with fail
              go_roundg n
              case measure => omega
              case rel => exact ⟨k + 1, rfl, by omega, by omega, ⟨(by go_simp), (by go_simp), (by go_simp), (by go_simp), (by go_simp), (by go_simp), (by go_simp), (by go_simp)⟩, ⟨(by first | omega | (simp; omega)), (by first | omega | (simp; omega))⟩, (by first | omega | (simp; omega)), by repeat (first | with_reducible apply Below.refl | (with_reducible apply Below.setCell; rotate_left; focus (first | omega | (simp; done) | (simp; omega))) | (with_reducible apply Below.alloc; rotate_left; focus (first | omega | (simp; done) | (simp; omega))) | with_reducible apply Below.drew | with_reducible apply belowDrewN | (with_reducible apply Below.trans; rotate_left; with_reducible apply Below.mono; with_reducible assumption; focus (first | omega | (simp; done) | (simp; omega))))⟩
            | true =>
              cases x2 : (my == 0) with
              | false =>
                clear u1 u2 hS
                go_wp2_with fail
                go_roundg n
                case measure => omega
                case rel => exact ⟨k + 1, rfl, by omega, by omega, ⟨(by go_simp), (by go_simp), (by go_simp), (by go_simp), (by go_simp), (by go_simp), (by go_simp), (by go_simp)⟩, ⟨(by first | omega | (simp; omega)), (by first | omega | (simp; omega))⟩, (by first | omega | (simp; omega)), by repeat (first | with_reducible apply Below.refl | (with_reducible apply Below.setCell; rotate_left; focus (first | omega | (simp; done) | (simp; omega))) | (with_reducible apply Below.alloc; rotate_left; focus (first | omega | (simp; done) | (simp; omega))) | with_reducible apply Below.drew | with_reducible apply belowDrewN | (with_reducible apply Below.trans; rotate_left; with_reducible apply Below.mono; with_reducible assumption; focus (first | omega | (simp; done) | (simp; omega))))⟩
              | true =>
                obtain ⟨z, eh⟩ : ∃ z, (bokB p q r t && (bokB P Q P Q && (leB p q P Q && leB P Q r t))) = z := ⟨_, rfl⟩
                cases z with
                | false =>
                  clear u1 u2 hS
                  go_wp2_with (go_at_call 16; refine (bhas_q p q r t P Q P Q _ _ eh).mono ?_; rintro e w6 ⟨rfl, hb6⟩; obtain ⟨hc6, hf6⟩ := bcell hb6; have hz6 := hb6.size; (try simp only [World.size_drew, World.size_alloc, World.size_setCell] at hc6 hf6 hz6); have hk6x0 := fun o => hc6 (ab) o (by omega); have hj6x0 := fun o => hf6 (ab) o (by omega); have hq6x0 : ab < w6.heap.size := (by omega); have hk6x1 := fun o => hc6 (bb) o (by omega); have hj6x1 := fun o => hf6 (bb) o (by omega); have hq6x1 : bb < w6.heap.size := (by omega); clear hc6 hf6)
                  go_roundg n
                  case measure => omega
                  case rel => exact ⟨k + 1, rfl, by omega, by omega, ⟨(by go_simp), (by go_simp), (by go_simp), (by go_simp), (by go_simp), (by go_simp), (by go_simp), (by go_simp)⟩, ⟨(by first | omega | (simp; omega)), (by first | omega | (simp; omega))⟩, (by first | omega | (simp; omega)), by repeat (first | with_reducible apply Below.refl | (with_reducible apply Below.setCell; rotate_left; focus (first | omega | (simp; done) | (simp; omega))) | (with_reducible apply Below.alloc; rotate_left; focus (first | omega | (simp; done) | (simp; omega))) | with_reducible apply Below.drew | with_reducible apply belowDrewN | (with_reducible apply Below.trans; rotate_left; with_reducible apply Below.mono; with_reducible assumption; focus (first | omega | (simp; done) | (simp; omega))))⟩
                | true =>
                  have y1 : mx = 0 := by simpa using x1
                  have y2 : my = 0 := by simpa using x2
                  have eh2 := eh
                  unfold leB at eh2
                  simp only [Bool.and_eq_true, decide_eq_true_eq] at eh2
                  obtain ⟨_, _, ⟨z1, z2⟩, z3, z4⟩ := eh2
                  have hz := hS.out k k0 hk9 (by unfold inB; simp only [decide_eq_true_eq]; omega) (by unfold inB; simp only [decide_eq_true_eq]; omega) (by unfold inB; simp only [decide_eq_true_eq]; omega) (by omega) (by omega) (by omega) (by omega)
                  have d8 : decide (F ≤ k) = true := decide_eq_true hz.2
                  have hK := hz.1
                  subst hK
                  clear u1 u2 hS hz y1 y2 z1 z2 z3 z4
                  go_wp2_with (go_at_call 16; refine (bhas_q p q r t P Q P Q _ _ eh).mono ?_; rintro e w6 ⟨rfl, hb6⟩; obtain ⟨hc6, hf6⟩ := bcell hb6; have hz6 := hb6.size; (try simp only [World.size_drew, World.size_alloc, World.size_setCell] at hc6 hf6 hz6); have hk6x0 := fun o => hc6 (ab) o (by omega); have hj6x0 := fun o => hf6 (ab) o (by omega); have hq6x0 : ab < w6.heap.size := (by omega); have hk6x1 := fun o => hc6 (bb) o (by omega); have hj6x1 := fun o => hf6 (bb) o (by omega); have hq6x1 : bb < w6.heap.size := (by omega); clear hc6 hf6)
                  go_ret
                  exact ⟨rfl, by repeat (first | with_reducible apply Below.refl | (with_reducible apply Below.setCell; rotate_left; focus (first | omega | (simp; done) | (simp; omega))) | (with_reducible apply Below.alloc; rotate_left; focus (first | omega | (simp; done) | (simp; omega))) | with_reducible apply Below.drew | with_reducible apply belowDrewN | (with_reducible apply Below.trans; rotate_left; with_reducible apply Below.mono; with_reducible assumption; focus (first | omega | (simp; done) | (simp; omega))))⟩
end Go.Proofs.Ytnkebpbpempmhaa
