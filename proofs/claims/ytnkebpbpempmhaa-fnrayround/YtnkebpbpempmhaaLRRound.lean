/- The walk of the law of promise 28. -/
import Derived.Test.YtnkebpbpempmhaaDrawR3
import Derived.Test.YtnkebpbpempmhaaRayRS
import Derived.Handy
import Derived.Deep.RegionHeld3
import Derived.Deep.DeepCutAuto
namespace Go.Proofs.Ytnkebpbpempmhaa
open Go.RowKit
set_option linter.unusedVariables false
set_option linter.unusedSimpArgs false

theorem rrF_is {H : Int → Bool} : ∀ (n : Nat) (t F : Int), rrF H n t = (F, true) → t ≤ F ∧ F < t + n ∧ H F = true ∧ ∀ j, t ≤ j → j < F → H j = false := by
  intro n
  induction n with
  | zero => intro t F h; unfold rrF at h; cases h
  | succ n ih =>
    intro t F h
    cases e : H t with
    | true =>
      obtain ⟨rfl, _⟩ := rrF_t h e
      exact ⟨by omega, by omega, e, fun j h1 h2 => by omega⟩
    | false =>
      obtain ⟨h1, h2, h3, h4⟩ := ih (t + 1) F (rrF_n h e)
      refine ⟨by omega, by omega, h3, fun j k1 k2 => ?_⟩
      by_cases q : j = t
      · rw [q]; exact e
      · exact h4 j (by omega) k2
set_option maxRecDepth 20000 in
set_option maxHeartbeats 16000000 in
theorem fnRayRound_walk (a : Option Addr) (len cap : Nat) (w : World) (hb : Bytes w a len cap) :
    Calls Try.prog 8 #[.slice a len cap] w fun e w' => e = .returned (.bool true) ∧ Below w.heap.size w w' := by
  have hset := cset_map
  go_enter Try.func8, Try.ntmps8
  go_upto_region 4 with (go_at_call 29; refine (drawRayRound_any _ _ _ _ hb).mono ?_; rintro e w1 ⟨V, p, q, g, rfl, hd, ⟨hp, hq⟩, ⟨g0, g1⟩, hb1⟩)
  · go_wp2_with fail
    go_ret
    exact ⟨rfl, Below.refl _ _⟩
  have a0 : Al w ((w1.alloc (.cells #[.int .i64 (V 0), .int .i64 (V 1), .int .i64 (V 2), .int .i64 (V 3)] 47)).alloc (.cells #[.int .i64 p, .int .i64 q] 24)) w1.heap.size 4 V := (Al.new hb1.size (by intro i hi; rcases (show i = 0 ∨ i = 1 ∨ i = 2 ∨ i = 3 by omega) with rfl | rfl | rfl | rfl <;> rfl)).belw (but_bel rfl) (by simp)
  have p0 : Al w ((w1.alloc (.cells #[.int .i64 (V 0), .int .i64 (V 1), .int .i64 (V 2), .int .i64 (V 3)] 47)).alloc (.cells #[.int .i64 p, .int .i64 q] 24)) (w1.heap.size + 1) 2 (fun j => [p, q].getD j 0) := by
    have h := Al.new (w0 := w) (w := w1.alloc (.cells #[.int .i64 (V 0), .int .i64 (V 1), .int .i64 (V 2), .int .i64 (V 3)] 47)) (cs := #[.int .i64 p, .int .i64 q]) (t := 24) (n := 2) (V := fun j => [p, q].getD j 0) (by have := hb1.size; simp; omega) (by intro i hi; rcases (show i = 0 ∨ i = 1 by omega) with rfl | rfl <;> rfl)
    simpa using h
  have hbx : Below w.heap.size w ((w1.alloc (.cells #[.int .i64 (V 0), .int .i64 (V 1), .int .i64 (V 2), .int .i64 (V 3)] 47)).alloc (.cells #[.int .i64 p, .int .i64 q] 24)) := (hb1.alloc hb1.size _).alloc (by have := hb1.size; simp; omega) _
  generalize ((w1.alloc (.cells #[.int .i64 (V 0), .int .i64 (V 1), .int .i64 (V 2), .int .i64 (V 3)] 47)).alloc (.cells #[.int .i64 p, .int .i64 q] 24)) = wa at *
  generalize hpb : w1.heap.size + 1 = tb at *
  generalize hab : w1.heap.size = ab at *
  clear hpb hab hb1 w1
  obtain ⟨x, ex⟩ : ∃ x, V 0 = x := ⟨_, rfl⟩
  obtain ⟨y, ey⟩ : ∃ y, V 1 = y := ⟨_, rfl⟩
  obtain ⟨c, ec⟩ : ∃ c, V 2 = c := ⟨_, rfl⟩
  obtain ⟨d, ed⟩ : ∃ d, V 3 = d := ⟨_, rfl⟩
  have k0 := a0
  have ac0 := (a0).2.2.1 0 (by omega)
  have af0 := (a0).2.2.2 0 (by omega)
  have ac1 := (a0).2.2.1 1 (by omega)
  have af1 := (a0).2.2.2 1 (by omega)
  have ac2 := (a0).2.2.1 2 (by omega)
  have af2 := (a0).2.2.2 2 (by omega)
  have ac3 := (a0).2.2.1 3 (by omega)
  have af3 := (a0).2.2.2 3 (by omega)
  have bc0 := (p0).2.2.1 0 (by omega)
  have bf0 := (p0).2.2.2 0 (by omega)
  have bc1 := (p0).2.2.1 1 (by omega)
  have bf1 := (p0).2.2.2 1 (by omega)
  rw [ex] at ac0
  rw [ey] at ac1
  rw [ec] at ac2
  rw [ed] at ac3
  have hq0 : ab < wa.heap.size := a0.2.1
  have hq1 : tb < wa.heap.size := p0.2.1
  have hq2 : w.heap.size ≤ wa.heap.size := hbx.size
  obtain ⟨⟨F, K⟩, eR⟩ : ∃ z, rsP x y c d 1 g 0 p q = z := ⟨_, rfl⟩
  clear k0 a0 p0 ex ey ec ed
  go_upto_region 6 with (first
    | (have _ := hb2; go_at_call 31; refine (sRayRound_q x y c d g p q F K _ eR).mono ?_; rintro e w3 ⟨rfl, hb3⟩; obtain ⟨hc3, hf3⟩ := bcell hb3; have hz3 := hb3.size; (try simp only [World.size_drew, World.size_alloc, World.size_setCell] at hc3 hf3 hz3); have hk3x0 := fun o => hc3 (ab) o (by omega); have hj3x0 := fun o => hf3 (ab) o (by omega); have hq3x0 : ab < w3.heap.size := (by omega); have hk3x1 := fun o => hc3 (tb) o (by omega); have hj3x1 := fun o => hf3 (tb) o (by omega); have hq3x1 : tb < w3.heap.size := (by omega); clear hc3 hf3)
    | (go_at_call 30; refine (rayRound_q x y c d g p q F K _ eR).mono ?_; rintro e w2 ⟨rfl, hb2⟩; obtain ⟨hc2, hf2⟩ := bcell hb2; have hz2 := hb2.size; (try simp only [World.size_drew, World.size_alloc, World.size_setCell] at hc2 hf2 hz2); have hk2x0 := fun o => hc2 (ab) o (by omega); have hj2x0 := fun o => hf2 (ab) o (by omega); have hq2x0 : ab < w2.heap.size := (by omega); have hk2x1 := fun o => hc2 (tb) o (by omega); have hj2x1 := fun o => hf2 (tb) o (by omega); have hq2x1 : tb < w2.heap.size := (by omega); clear hc2 hf2))
  cases K with
  | false =>
    go_wp2_with fail
    go_ret
    exact ⟨rfl, by repeat (first | with_reducible apply Below.refl | (with_reducible apply Below.setCell; rotate_left; focus (first | omega | (simp; done) | (simp; omega))) | (with_reducible apply Below.alloc; rotate_left; focus (first | omega | (simp; done) | (simp; omega))) | with_reducible apply Below.drew | with_reducible apply belowDrewN | (with_reducible apply Below.trans; rotate_left; with_reducible apply Below.mono; with_reducible assumption; focus (first | omega | (simp; done) | (simp; omega))))⟩
  | true =>
    have hc : (rayB x y c d && (shB 1 g 0 && inB 2560000 p q)) = true := by
      cases e : (rayB x y c d && (shB 1 g 0 && inB 2560000 p q)) with
      | true => rfl
      | false => exact absurd (rsP_n eR e).2 (by decide)
    obtain ⟨f0, f1, hF, hN⟩ := rrF_is _ _ _ (rsP_r eR hc)
    have hc2 := hc
    unfold rayB at hc2
    simp only [Bool.and_eq_true] at hc2
    obtain ⟨⟨i1, i2, _⟩, hs, i3⟩ := hc2
    obtain ⟨bx, by'⟩ := inB_of i1
    obtain ⟨bc, bd⟩ := inB_of i2
    obtain ⟨bp, bq⟩ := inB_of i3
    have hH : ∀ t, 0 ≤ t → t ≤ F → rhB x y c d p q g t = decide (t = F) := by
      intro t h0 h1
      by_cases e : t = F
      · rw [e, hF]; simp
      · rw [hN t h0 (by omega)]; simp [e]
    have hS : Shut (∀ t, 0 ≤ t → t ≤ F → rhB x y c d p q g t = decide (t = F)) := hH
    clear hH hN hF eR hc i1 i2 i3 hs
    go_wp2_with fail
    go_loopg [10] 258 (fun k s wx => ∃ t : Int, s = .int .i64 t ∧ t + k = 258 ∧ 0 ≤ t ∧ t ≤ F + 1 ∧ wx = w3)
    case atStart => exact ⟨0, rfl, by omega, by omega, by omega, rfl⟩
    case round =>
      obtain ⟨t, rfl, ht, ht0, ht1, rfl⟩ := hrel
      by_cases hx : t = F + 1
      · subst hx
        clear hS
        have d1 : decide (F + 1 ≤ F) = false := decide_eq_false (by omega)
        have d2 : decide (F ≤ 256) = true := decide_eq_true (by omega)
        go_wp2_with fail
        go_ret
        exact ⟨rfl, by repeat (first | with_reducible apply Below.refl | (with_reducible apply Below.setCell; rotate_left; focus (first | omega | (simp; done) | (simp; omega))) | (with_reducible apply Below.alloc; rotate_left; focus (first | omega | (simp; done) | (simp; omega))) | with_reducible apply Below.drew | with_reducible apply belowDrewN | (with_reducible apply Below.trans; rotate_left; with_reducible apply Below.mono; with_reducible assumption; focus (first | omega | (simp; done) | (simp; omega))))⟩
      · cases gk with
        | zero => exfalso; omega
        | succ n =>
          have hle : t ≤ F := by omega
          have hh := hS.out t ht0 hle
          have m1 := mul_bd (a := c) (b := t) (A := 2560000) (B := 256) (by omega) (by omega)
          have m2 := mul_bd (a := d) (b := t) (A := 2560000) (B := 256) (by omega) (by omega)
          have k1 := td256 (x := c * t) (B := 2560000) (by omega)
          have k2 := td256 (x := d * t) (B := 2560000) (by omega)
          have w1 := i64w (n := c * t) (by omega)
          have w2 := i64w (n := d * t) (by omega)
          unfold rhB bxx at hh
          obtain ⟨qx, e1⟩ : ∃ qx, (c * t).tdiv 256 = qx := ⟨_, rfl⟩
          obtain ⟨qy, e2⟩ : ∃ qy, (d * t).tdiv 256 = qy := ⟨_, rfl⟩
          rw [e1, e2] at hh
          rw [e1] at k1
          rw [e2] at k2
          obtain ⟨A, e3⟩ : ∃ A, x + qx - p = A := ⟨_, rfl⟩
          obtain ⟨B, e4⟩ : ∃ B, y + qy - q = B := ⟨_, rfl⟩
          rw [e3, e4] at hh
          have m3 := mul_bd (a := A) (b := A) (A := 7680000) (B := 7680000) (by omega) (by omega)
          have m4 := mul_bd (a := B) (b := B) (A := 7680000) (B := 7680000) (by omega) (by omega)
          have m5 := mul_bd (a := g) (b := g) (A := 25601) (B := 25601) (by omega) (by omega)
          have w3' := i64w (n := x + qx) (by omega)
          have w4 := i64w (n := y + qy) (by omega)
          have w5 := i64w (n := x + qx - p) (by omega)
          have w6 := i64w (n := y + qy - q) (by omega)
          rw [e3] at w5
          rw [e4] at w6
          have w7 := i64w (n := A * A) (by omega)
          have w8 := i64w (n := B * B) (by omega)
          have w9 := i64w (n := A * A + B * B) (by omega)
          have w10 := i64w (n := g * g) (by omega)
          have w11 := i64w (n := t + 1) (by omega)
          have d1 : decide (t ≤ F) = true := decide_eq_true hle
          by_cases e : t = F
          · have dd : decide (A * A + B * B ≤ g * g) = true := by rw [hh]; exact decide_eq_true e
            have de : (t == F) = true := by rw [e]; exact beq_self_eq_true _
            clear hh m1 m2 m3 m4 m5 hS e
            go_wp2_with fail
            go_roundg n
            case measure => omega
            case rel => exact ⟨t + 1, rfl, by omega, by omega, by omega, rfl⟩
          · have dd : decide (A * A + B * B ≤ g * g) = false := by rw [hh]; exact decide_eq_false e
            have de : (t == F) = false := by simpa using e
            clear hh m1 m2 m3 m4 m5 hS
            go_wp2_with fail
            go_roundg n
            case measure => omega
            case rel => exact ⟨t + 1, rfl, by omega, by omega, by omega, rfl⟩
end Go.Proofs.Ytnkebpbpempmhaa
