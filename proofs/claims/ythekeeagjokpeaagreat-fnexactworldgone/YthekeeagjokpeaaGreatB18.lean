/- A body taken out of a world, by the specification: the whole. The exact law of WorldGone, walked. Lemmas on whatever program: from the head of its cut's word to the closed facts. Closed facts of the loaded program, each a theorem of its own. Slices of things that are numbers alone, as they come in. Lists of bodies, as they come in. Worlds, as they come in. A box that came in by value is four integers. -/
import Derived.Test.YthekeeagjokpeaaGreatB17
import Derived.Deep.RegionHeld3
import Derived.Deep.DeepCutAuto
import Derived.Test.YthekeeagjokpeaaGreatB9
import Derived.Test.YthekeeagjokpeaaGreatRows
import Derived.WalkKit
import Derived.JoinedOf
import Derived.ProofKit
import Derived.Test.YthekeeagjokpeaaGreatB1
import Derived.Deep.Slices
import Derived.ChangeSame
import Derived.ChangeArms
import Derived.OpenShut
import Derived.Lib.SmallJoins
namespace Go.Proofs.YthekeeagjokpeaaGreat
open Go.RowKit
set_option linter.unusedVariables false
set_option linter.unusedSimpArgs false
theorem Vw.setBn {wc w1 : World} {lo hi bx : Nat} {T P : Int} {a1 : Option Addr} {n c1 : Nat} {U : Nat → Int} {a2 : Option Addr} {m c2 : Nat} {Q : Nat → Int} {a3 : Option Addr} {n3 c3 : Nat} {U3 : Nat → Int} (h : Vw wc lo hi bx T P a1 n c1 U a2 m c2 Q) (hb : Below wc.heap.size wc w1) (ho : OwnL w1 wc.heap.size 55 12 (.slice a3 n3 c3) n3 U3) : Vw (w1.setCell ⟨bx, 2, none⟩ (.slice a3 n3 c3)) lo w1.heap.size bx T P a3 n3 c3 U3 a2 m c2 Q := by
  have hset := cset_map
  have h1 := (h.on hb).top
  have z0 := h1.c0
  have z1 := h1.c1
  have z2 := h1.c2
  have z3 := h1.c3
  have zf := h1.nf
  have hbl := h.blt
  have hll := h.bl
  have ho' := ho.base (B := lo) (by omega)
  have hx : ∀ b, (Value.slice a3 n3 c3).ownBlock = some b → b ≠ bx := fun b e => by have := (ho.lt b e).1; omega
  have hs : Fr (fun b => b = bx) w1 (w1.setCell ⟨bx, 2, none⟩ (.slice a3 n3 c3)) := Fr.setCell (X := fun b => b = bx) rfl _
  exact ⟨by go_simp, by go_simp, by go_simp, by go_simp, fun o => by go_simp, h1.bl, h1.blt, hs.size, ho'.frame hs (fun b e x => hx b e x), h1.op.frame hs (fun b e x => (h1.t2 b e).2 x), fun b e => ⟨(ho'.lt b e).2, hx b e⟩, h1.t2⟩
theorem Vw.setPn {wc w1 : World} {lo hi bx : Nat} {T P : Int} {a1 : Option Addr} {n c1 : Nat} {U : Nat → Int} {a2 : Option Addr} {m c2 : Nat} {Q : Nat → Int} {a3 : Option Addr} {n3 c3 : Nat} {U3 : Nat → Int} (h : Vw wc lo hi bx T P a1 n c1 U a2 m c2 Q) (hb : Below wc.heap.size wc w1) (ho : OwnL w1 wc.heap.size 45 2 (.slice a3 n3 c3) n3 U3) : Vw (w1.setCell ⟨bx, 3, none⟩ (.slice a3 n3 c3)) lo w1.heap.size bx T P a1 n c1 U a3 n3 c3 U3 := by
  have hset := cset_map
  have h1 := (h.on hb).top
  have z0 := h1.c0
  have z1 := h1.c1
  have z2 := h1.c2
  have z3 := h1.c3
  have zf := h1.nf
  have hbl := h.blt
  have hll := h.bl
  have ho' := ho.base (B := lo) (by omega)
  have hx : ∀ b, (Value.slice a3 n3 c3).ownBlock = some b → b ≠ bx := fun b e => by have := (ho.lt b e).1; omega
  have hs : Fr (fun b => b = bx) w1 (w1.setCell ⟨bx, 3, none⟩ (.slice a3 n3 c3)) := Fr.setCell (X := fun b => b = bx) rfl _
  exact ⟨by go_simp, by go_simp, by go_simp, by go_simp, fun o => by go_simp, h1.bl, h1.blt, hs.size, h1.ob.frame hs (fun b e x => (h1.t1 b e).2 x), ho'.frame hs (fun b e x => hx b e x), h1.t1, fun b e => ⟨(ho'.lt b e).2, hx b e⟩⟩

set_option maxRecDepth 20000 in
set_option maxHeartbeats 8000000 in
theorem sWorldGone_q (T P : Int) (a : Option Addr) (n c : Nat) (U : Nat → Int) (a' : Option Addr) (m c' : Nat) (Q : Nat → Int) (id : Int) (p : Nat) (w : World) (h : Flat w a (n * 12) U) (h' : Flat w a' (m * 2) Q) (hn : n ≤ 1048576) (hm : m ≤ 1048576) (hp : idP U n id p) (A : WA) (eA : goneWA T P n U m Q id p = A) :
    Calls Tryz.prog 5 #[worldW T P a n c a' m c', .int .i64 id] w fun e w' => WOut w w' e A := by
  have hset := cset_map
  have hS := FmGone.start w T P a a' n c m c'
  cases hok : worldB T P n U m Q with
  | false =>
    simp only [goneWA, hok, cond_false] at eA
    subst eA
    go_enter Tryz.func5, Tryz.ntmps5
    go_wp2_with (go_at_call 13; refine (sWorldOk_q T P a n c U a' m c' Q _ (h.below hS.wd.bel) (h'.below hS.wd.bel) hn hm false hok).mono ?_; rintro e w1 ⟨rfl, hb1⟩; have hS1 := hS.on hb1; have y0 := hS1.wd.c0; have y1 := hS1.wd.c1; have y2 := hS1.wd.c2; have y3 := hS1.wd.c3; have z0 := hS1.z0; have z1 := hS1.z1; have z2 := hS1.z2; have z3 := hS1.z3; have nf := hS1.nf; have bg := hS1.big)
    exact bodyPost_ret (v := .tuple #[worldW 0 0 none 0 0 none 0 0, .int .i64 1]) (by simp [results, Tryz.results5, go_sem, *]) rfl (WOut.of none 0 none 0 rfl (OutW.nil ((((hS1.wd.bel.setCell (by first | omega | (simp; done) | (simp; omega)) _).setCell (by first | omega | (simp; done) | (simp; omega)) _).setCell (by first | omega | (simp; done) | (simp; omega)) _).setCell (by first | omega | (simp; done) | (simp; omega)) _)))
  | true =>
    unfold goneWA at eA
    have hbb := worldB_bods hok
    obtain ⟨TH, hTH⟩ : ∃ b, decide (p < n ∧ U (p * 12) = id) = b := ⟨_, rfl⟩
    go_enter Tryz.func5, Tryz.ntmps5
    go_upto_region 3 with (go_at_call 13; refine (sWorldOk_q T P a n c U a' m c' Q _ (h.below hS.wd.bel) (h'.below hS.wd.bel) hn hm true hok).mono ?_; rintro e w1 ⟨rfl, hb1⟩; have hS1 := hS.on hb1; have y0 := hS1.wd.c0; have y1 := hS1.wd.c1; have y2 := hS1.wd.c2; have y3 := hS1.wd.c3; have z0 := hS1.z0; have z1 := hS1.z1; have z2 := hS1.z2; have z3 := hS1.z3; have nf := hS1.nf; have bg := hS1.big)
    go_upto_region 3 with fail
    go_cut [6, 7] (fun s0 s1 wc => s0 = .int .i64 (p : Int) ∧ s1 = .bool TH ∧ FmGone w T P a n c a' m c' wc)
    case first =>
      go_wp2_with (go_at_call 14; refine (l10At_q a n c U id p _ (h.below hS1.wd.bel) hn hp TH hTH).mono ?_; rintro e w4 ⟨rfl, hb4⟩)
      go_meet
      exact ⟨rfl, rfl, hS1.on hb4⟩
    case rest =>
    clear hS hb1 hS1 y0 y1 y2 y3 z0 z1 z2 z3 nf bg
    obtain ⟨rfl, rfl, hS⟩ := hcut
    have y0 := hS.wd.c0
    have y1 := hS.wd.c1
    have y2 := hS.wd.c2
    have y3 := hS.wd.c3
    have z0 := hS.z0
    have z1 := hS.z1
    have z2 := hS.z2
    have z3 := hS.z3
    have nf := hS.nf
    have bg := hS.big
    
    cases TH with
    | false =>
      simp only [hok, hTH, cond_true, cond_false] at eA
      subst eA
      go_wp2_with (go_at_call 15; refine (l10Copy_any T P a n c U a' m c' Q _ (h.below hS.wd.bel) (h'.below hS.wd.bel) hn hm).mono ?_; rintro e w3 ⟨a1, c1, a2, c2, rfl, hO⟩; have hS3 := hS.on hO.bel; have q0 := hS3.z0; have q1 := hS3.z1; have q2 := hS3.z2; have q3 := hS3.z3; have qf := hS3.nf; have qb := hS3.big)
      exact bodyPost_ret (v := .tuple #[worldW T P a1 n c1 a2 m c2, .int .i64 4]) (by simp [results, Tryz.results5, go_sem, *]) rfl (WOut.of a1 c1 a2 c2 rfl (hO.res hS.wd.bel (by first | omega | (simp; done) | (simp; omega)) hS.big _ _ _ _))
    | true =>
      simp only [hok, hTH, cond_true] at eA
      subst eA
      have hpn := (of_decide_eq_true hTH).1
      clear hTH
      have hpi : (p : Int) < (n : Int) := by omega
      go_upto_region 6 with fail
      go_cut [8] (fun s0 wc => ∃ lo bx a1 c1 a2 c2, s0 = .pointer (some ⟨bx, 0, none⟩) ∧ w.heap.size + 1 < lo ∧ FmGone w T P a n c a' m c' wc ∧ Vw wc lo wc.heap.size bx T P a1 n c1 U a2 m c2 Q)
      case first =>
        go_wp2_with (go_at_call 15; refine (l10Copy_any T P a n c U a' m c' Q _ (h.below hS.wd.bel) (h'.below hS.wd.bel) hn hm).mono ?_; rintro e w3 ⟨a1, c1, a2, c2, rfl, hO⟩; have hS3 := hS.on hO.bel; have q0 := hS3.z0; have q1 := hS3.z1; have q2 := hS3.z2; have q3 := hS3.z3; have qf := hS3.nf; have qb := hS3.big)
        go_meet
        exact ⟨_, _, a1, c1, a2, c2, rfl, hS.big, (hS.on hO.bel).on ((Below.refl _ _).alloc (Nat.le_refl _) _), (Vw.new hO).top⟩
      case rest =>
      clear hS y0 y1 y2 y3 z0 z1 z2 z3 nf bg
      obtain ⟨lo, bx, a1, c1, a2, c2, rfl, hlo, hS, hV⟩ := hcut
      have y0 := hS.wd.c0
      have y1 := hS.wd.c1
      have y2 := hS.wd.c2
      have y3 := hS.wd.c3
      have z0 := hS.z0
      have z1 := hS.z1
      have z2 := hS.z2
      have z3 := hS.z3
      have nf := hS.nf
      have bg := hS.big
      have v0 := hV.c0
      have v1 := hV.c1
      have v2 := hV.c2
      have v3 := hV.c3
      have vn := hV.nf
      have vb := hV.blt
      have vl := hV.bl
      go_upto_region 7 with fail
      go_cut [9] (fun s0 wc => ∃ l2 a3 c3, s0 = .slice a3 n c3 ∧ FmGone w T P a n c a' m c' wc ∧ Vw wc lo wc.heap.size bx T P a1 n c1 U a2 m c2 Q ∧ OwnL wc l2 55 12 (.slice a3 n c3) n (wakeR (fun j => U (p * 12 + j)) U p n))
      case first =>
        go_wp2_with (go_at_call 16; refine (woken_any a n c U p _ (h.below hS.wd.bel) hn hpn hbb).mono ?_; rintro e w3 ⟨a3, c3, rfl, hO⟩)
        go_meet
        exact ⟨_, _, _, rfl, hS.on hO.bel, hV.onT hO.bel, hO.own⟩
      case rest =>
      clear hS y0 y1 y2 y3 z0 z1 z2 z3 nf bg hV v0 v1 v2 v3 vn vb vl
      obtain ⟨l2, a3, c3, rfl, hS, hV, hL⟩ := hcut
      have y0 := hS.wd.c0
      have y1 := hS.wd.c1
      have y2 := hS.wd.c2
      have y3 := hS.wd.c3
      have z0 := hS.z0
      have z1 := hS.z1
      have z2 := hS.z2
      have z3 := hS.z3
      have nf := hS.nf
      have bg := hS.big
      have v0 := hV.c0
      have v1 := hV.c1
      have v2 := hV.c2
      have v3 := hV.c3
      have vn := hV.nf
      have vb := hV.blt
      have vl := hV.bl
      obtain ⟨g, rfl, hg1, hg2⟩ := hL.loc (by omega)
      have hLc := hL.capge
      have hLf := hL.flat
      have hpc : (p : Int) ≤ (c3 : Int) := by omega
      have hpn1 : (p : Int) + 1 ≤ (n : Int) := by omega
      have hpw : IntKind.i64.wrap ((p : Int) + 1) = (p : Int) + 1 := i64w (by omega)
      have hpt : ((p : Int) + 1).toNat = p + 1 := by omega
      have hpk : (0 : Int) ≤ (p : Int) + 1 := by omega
      obtain ⟨at2, hat2⟩ : ∃ x, (if c3 = p + 1 then some (⟨g, 0, none⟩ : Addr) else some ⟨g, (p + 1) * 12, none⟩) = x := ⟨_, rfl⟩
      have hat3 : (if c3 = p + 1 then some (⟨g, 0, none⟩ : Addr) else some ⟨g, 0 + (p + 1) * 12, none⟩) = at2 := by rw [Nat.zero_add]; exact hat2
      go_upto_region 8 with fail
      go_cut [] (fun  wc => ∃ a6 c6, FmGone w T P a n c a' m c' wc ∧ Vw wc lo wc.heap.size bx T P a6 (n - 1) c6 (delU (wakeR (fun j => U (p * 12 + j)) U p n) p) a2 m c2 Q)
      case first =>
        have ho0 : OwnL (wc.alloc (.cells #[] 55)).drew wc.heap.size 55 12 (.slice (some ⟨wc.heap.size, 0, none⟩) 0 0) 0 (fun _ => 0) := (OwnL.fresh0 _ _ _ _ _ _ rfl (Nat.le_refl _)).drewO
        have hE0 : Below wc.heap.size wc (wc.alloc (.cells #[] 55)).drew := ((Below.refl _ _).alloc (Nat.le_refl _) _).drew
        refine wp_region_held_drew (S := fun w' => True) (by kernel_rfl) ?_ (fun hHeld => ?_)
        · trivial
        refine tq 1 hHeld ?_
        refine tq 2 hHeld ?_
        refine tq 3 hHeld ?_
        refine tq 5 hHeld ?_
        refine tq 6 hHeld ?_
        refine tq 7 hHeld ?_
        refine tq 8 hHeld ?_
        refine tc 0 fun K hK => ?_
        (go_simp; generalize (wc.alloc (.cells #[] 55)).drew = y0 at ho0 hE0 ⊢; refine tr hK (fun hHeld => ?_) trivial; clear hK K)
        refine tc 4 fun K hK => ?_
        refine step_app0 (by rfl) _ _ _ (by rfl) wc.heap.size 55 12 96 zcBody Tryz.underlying27 infoItBody (by rfl) (by decide) _ (fun _ => 0) (by rfl) ho0 _ p _ (wakeR (fun j => U (p * 12 + j)) U p n) (by rfl) (flatHead (hLf.below hE0) hpn) (by unfold maxLen; omega) (by omega) hE0.size ?_
        intro a5 c5 w5 ho5 hg5
        have hE5 : Below wc.heap.size wc w5 := hE0.grown hg5 hE0.size (fun b e => (ho0.lt b e).1)
        refine tr hK (fun hHeld => ?_) trivial
        clear hK K
        refine tc 9 fun K hK => ?_
        refine step_app (by rfl) _ _ _ (by rfl) wc.heap.size 55 12 96 zcBody Tryz.underlying27 infoItBody (by rfl) (by decide) _ p (wakeR (fun j => U (p * 12 + j)) U p n) (by rfl) ho5 _ (n - (p + 1)) _ (fun q => (wakeR (fun j => U (p * 12 + j)) U p n) (q + (p + 1) * 12)) (by rfl) (flatTail hat3 hLc (hLf.below hE5)) (by unfold maxLen; omega) (by omega) hE5.size ?_
        intro a6 c6 w6 ho6 hg6
        have hE6 : Below wc.heap.size wc w6 := hE5.grown hg6 hE5.size (fun b e => (ho5.lt b e).1)
        have hV6 := hV.onT hE6
        have hS6 := hS.on hE6
        have k6 := hV6.c2
        have k6f := hV6.nf
        refine tr hK (fun hHeld => ?_) trivial
        clear hK K
        refine tq 10 hHeld ?_
        refine tc 11 fun K hK => ?_
        (go_simp; refine tr hK (fun hHeld => ?_) trivial; clear hK K)
        refine wpAnyH_done (by kernel_rfl) ?_ _
        go_wp2_with fail
        go_meet
        have hne : p + (n - (p + 1)) = n - 1 := by omega
        have ho7 := ho6.congr (fun q _ => congrFun (cat_del (wakeR (fun j => U (p * 12 + j)) U p n) p) q)
        have hs1 : Fr (fun b => b = bx) w6 (w6.setCell ⟨bx, 2, none⟩ (.slice a6 (p + (n - (p + 1))) c6)) := Fr.setCell (X := fun b => b = bx) rfl _
        have hR := (hV.setBn hE6 ho7).top
        have hS7 := hS6.fr hs1 (fun b e => by subst e; have := hV.bl; omega)
        rw [hne] at hR hS7 ⊢
        exact ⟨_, _, hS7, hR⟩
      case rest =>
      clear hS y0 y1 y2 y3 z0 z1 z2 z3 nf bg hV v0 v1 v2 v3 vn vb vl
      clear hL hLf hat2 hat3 hpw hpt hpk hpc hpn1
      obtain ⟨a6, c6, hS, hV⟩ := hcut
      have y0 := hS.wd.c0
      have y1 := hS.wd.c1
      have y2 := hS.wd.c2
      have y3 := hS.wd.c3
      have z0 := hS.z0
      have z1 := hS.z1
      have z2 := hS.z2
      have z3 := hS.z3
      have nf := hS.nf
      have bg := hS.big
      have v0 := hV.c0
      have v1 := hV.c1
      have v2 := hV.c2
      have v3 := hV.c3
      have vn := hV.nf
      have vb := hV.blt
      have vl := hV.bl
      go_upto_region 9 with fail
      go_cut [] (fun  wc => ∃ a7 c7, FmGone w T P a n c a' m c' wc ∧ Vw wc lo wc.heap.size bx T P a6 (n - 1) c6 (delU (wakeR (fun j => U (p * 12 + j)) U p n) p) a7 0 c7 (ofL (gnL Q id 0)))
      case first =>
        go_wp2_with fail
        go_meet
        have hE9 : Below wc.heap.size wc (wc.alloc (.cells #[] 45)) := (Below.refl _ _).alloc (Nat.le_refl _) _
        have hs1 : Fr (fun b => b = bx) (wc.alloc (.cells #[] 45)) ((wc.alloc (.cells #[] 45)).setCell ⟨bx, 3, none⟩ (.slice (some ⟨wc.heap.size, 0, none⟩) 0 0)) := Fr.setCell (X := fun b => b = bx) rfl _
        have hS9 := (hS.on hE9).fr hs1 (fun b e => by subst e; omega)
        have hV9 := (hV.setPn hE9 (OwnL.fresh0 _ _ _ _ (ofL (gnL Q id 0)) _ rfl (Nat.le_refl _))).top
        have heq : (wc.alloc (.cells #[] 45)).setCell ⟨bx, 3, none⟩ (.slice (some ⟨wc.heap.size, 0, none⟩) 0 0) = (wc.setCell ⟨bx, 3, none⟩ (.slice (some ⟨wc.heap.size, 0, none⟩) 0 0)).alloc (.cells #[] 45) := by go_simp
        rw [heq] at hS9 hV9
        exact ⟨_, _, hS9, hV9⟩
      case rest =>
      clear hS y0 y1 y2 y3 z0 z1 z2 z3 nf bg hV v0 v1 v2 v3 vn vb vl
      obtain ⟨a7, c7, hS, hV⟩ := hcut
      go_upto_region 11 with fail
      go_loopw [10] (fun s wr => ∃ (k mm : Nat) (a3 : Option Addr) (c3 : Nat), k ≤ m ∧ s = .int .i64 (k : Int) ∧ (gnL Q id k).length = mm * 2 ∧ FmGone w T P a n c a' m c' wr ∧ Vw wr lo wr.heap.size bx T P a6 (n - 1) c6 (delU (wakeR (fun j => U (p * 12 + j)) U p n) p) a3 mm c3 (ofL (gnL Q id k))) (fun s _ => m - (intOf s).toNat)
      case atStart => exact ⟨0, 0, a7, c7, Nat.zero_le _, rfl, rfl, hS, hV⟩
      case round =>
        clear hS hV
        obtain ⟨k, mm, a3, c3, hk, rfl, hlen, hS, hV⟩ := hrel
        have y3 := hS.wd.c3
        by_cases hlt : k < m
        · have hkm : (k : Int) < (m : Int) := by omega
          obtain ⟨b', o', rfl, hbl', hc'⟩ := h' (by omega)
          have e0 := (hS.wd.bel.cell (p := ⟨b', o' + k * 2, none⟩) hbl').trans (hc' (k * 2) (by omega))
          have e1 := (hS.wd.bel.cell (p := ⟨b', o' + (k * 2 + 1), none⟩) hbl').trans (hc' (k * 2 + 1) (by omega))
          simp only [← Nat.add_assoc] at e0 e1
          clear hc'
          have hle := gnL_len Q id k
          by_cases q1 : Q (k * 2) = id
          · have hno : Shut (gnL Q id (k + 1) = gnL Q id k) := gnL_no (by unfold gnB; simp [q1])
            have e2 : (Q (k * 2) == id) = true := by simp [q1]
            have e6 : (Q (k * 2) != id) = false := by simp [q1]
            have e3 : (Q (k * 2) = id) = True := by simp [q1]
            clear q1
            go_wp2_with fail
            go_roundw
            case rel => exact ⟨k + 1, mm, _, _, by omega, by go_num, by rw [hno.out]; exact hlen, hS, by rw [hno.out]; exact hV⟩
            case measure => simp [intOf]; omega
          · have e2 : (Q (k * 2) == id) = false := by simp [q1]
            have e6 : (Q (k * 2) != id) = true := by simp [q1]
            by_cases q2 : Q (k * 2 + 1) = id
            · have hno : Shut (gnL Q id (k + 1) = gnL Q id k) := gnL_no (by unfold gnB; simp [q2])
              have e4 : (Q (k * 2 + 1) == id) = true := by simp [q2]
              have e7 : (Q (k * 2 + 1) != id) = false := by simp [q2]
              have e5 : (Q (k * 2 + 1) = id) = True := by simp [q2]
              clear q2
              go_wp2_with fail
              go_roundw
              case rel => exact ⟨k + 1, mm, _, _, by omega, by go_num, by rw [hno.out]; exact hlen, hS, by rw [hno.out]; exact hV⟩
              case measure => simp [intOf]; omega
            · have hyes : Shut (gnL Q id (k + 1) = gnL Q id k ++ [Q (k * 2), Q (k * 2 + 1)]) := gnL_yes (by unfold gnB; simp [q1, q2])
              have e4 : (Q (k * 2 + 1) == id) = false := by simp [q2]
              have e7 : (Q (k * 2 + 1) != id) = true := by simp [q2]
              go_upto_region 14 with fail
              have v3 := hV.c3
              have hE7 : Below wr.heap.size wr (wr.alloc (Obj.cells #[.int .i64 (Q (k * 2)), .int .i64 (Q (k * 2 + 1))] 45)).drew := ((Below.refl _ _).alloc (Nat.le_refl _) _).drew
              have hV7 := hV.onT hE7
              have hS7 := hS.on hE7
              have m3 := hS7.wd.c3
              have v7 := hV7.c3
              have hwz := hS.wd.bel.size
              have m4 := (hE7.cell (p := ⟨b', o' + k * 2, none⟩) (by simp; omega)).trans e0
              have m5 := (hE7.cell (p := ⟨b', o' + k * 2 + 1, none⟩) (by simp; omega)).trans e1
              have cx0 : (wr.alloc (Obj.cells #[.int .i64 (Q (k * 2)), .int .i64 (Q (k * 2 + 1))] 45)).drew.cell? ⟨wr.heap.size, 0, none⟩ = some (.int .i64 (ofL [Q (k * 2), Q (k * 2 + 1)] 0)) := by simp only [ofL]; go_simp; (try rfl)
              have cx1 : (wr.alloc (Obj.cells #[.int .i64 (Q (k * 2)), .int .i64 (Q (k * 2 + 1))] 45)).drew.cell? ⟨wr.heap.size, 1, none⟩ = some (.int .i64 (ofL [Q (k * 2), Q (k * 2 + 1)] 1)) := by simp only [ofL]; go_simp; (try rfl)
              have j0 : ¬ bx = w.heap.size := by have := hV.bl; omega
              have j0' : ¬ w.heap.size = bx := fun e => j0 e.symm
              have j1 : ¬ bx = b' := by have := hV.bl; omega
              have j1' : ¬ b' = bx := fun e => j1 e.symm
              refine wp_region_held_drew (S := fun w' => w'.cell? ⟨w.heap.size, 3, none⟩ = some (.slice (some ⟨b', o', none⟩) m c') ∧ w'.cell? ⟨b', o' + k * 2, none⟩ = some (.int .i64 (Q (k * 2))) ∧ w'.cell? ⟨b', o' + k * 2 + 1, none⟩ = some (.int .i64 (Q (k * 2 + 1)))) (by kernel_rfl) ?_ (fun hHeld => ?_)
              · (try dsimp only)
                (first | (go_simp; done) | (go_keep; done))
              refine tq 0 hHeld ?_
              refine tq 2 hHeld ?_
              refine tq 3 hHeld ?_
              refine tq 4 hHeld ?_
              refine tq 5 hHeld ?_
              refine tq 6 hHeld ?_
              refine wpAnyH_ready (rs := [1, 7]) (by kernel_rfl) (by simp) ?_
              refine AllReadyH.cons rfl (fun K hK => ?_) (AllReadyH.cons rfl (fun K hK => ?_) AllReadyH.nil)
              · (go_simp; refine tr hK (fun hHeld => ?_); clear hK K)
                refine tc 7 fun K hK => ?_
                (go_simp; generalize (wr.alloc (Obj.cells #[.int .i64 (Q (k * 2)), .int .i64 (Q (k * 2 + 1))] 45)).drew = y0 at hE7 hV7 hS7 cx0 cx1 m3 m4 m5 v7 ⊢; refine tr hK (fun hHeld => ?_); clear hK K)
                refine tc 8 fun K hK => ?_
                refine step_appk (by rfl) _ _ _ (by rfl) lo 45 2 16 zcPair Tryz.underlying28 infoItPair (by rfl) (by decide) (.slice a3 mm c3) mm (ofL (gnL Q id k)) (by rfl) hV7.op wr.heap.size _ (ofL [Q (k * 2), Q (k * 2 + 1)]) (by rfl) (fun q hq => by rcases (show q = 0 ∨ q = 1 by omega) with rfl | rfl; exact cx0; exact cx1) (by unfold maxLen; omega) (by omega) (by have := hE7.size; have := hV.blt; have := hV.bl; omega) _ rfl ?_
                intro g7 c7' w7 ho7 hg7 hor7 hlt7
                have hF7 := Fr.grown (X := fun b => (Value.slice a3 mm c3).ownBlock = some b) hg7 (fun b e => e) hV7.op.isCells
                have nbx : ¬ (Value.slice a3 mm c3).ownBlock = some bx := fun e => (hV7.t2 bx e).2 rfl
                have k7c := (hF7.cell (p := ⟨bx, 3, none⟩) hV7.blt nbx).trans hV7.c3
                have k7f := (hF7.frozen (p := ⟨bx, 3, none⟩) hV7.blt nbx).trans (hV7.nf 3)
                have hS7' := hS7.fr hF7 (fun b e => by have := (hV7.op.lt b e).1; omega)
                have m3' := hS7'.wd.c3
                have hbl7 := hE7.size
                have nby : ¬ (Value.slice a3 mm c3).ownBlock = some b' := fun e => by have := (hV7.op.lt b' e).1; omega
                have m4' := (hF7.cell (p := ⟨b', o' + k * 2, none⟩) (by simp; omega) nby).trans m4
                have m5' := (hF7.cell (p := ⟨b', o' + k * 2 + 1, none⟩) (by simp; omega) nby).trans m5
                refine tr hK (fun hHeld => ?_) ⟨m3', m4', m5'⟩
                clear hK K
                refine tq 9 hHeld ?_
                refine tc 10 fun K hK => ?_
                (go_simp; refine tr hK (fun hHeld => ?_); clear hK K)
                refine wpAnyH_done (by kernel_rfl) ?_ _
                go_wp2_with fail
                have hn7 : g7 ≠ bx := by rcases hor7 with e | e; exact (hV7.t2 g7 e).2; (have := hV7.blt; omega)
                have hP := (hV7.setP hg7 ho7 (fun b e => by simp [Value.ownBlock] at e; omega)).top
                rw [← hlen, cat_ofL] at hP
                have hs8 : Fr (fun b => b = bx) w7 (w7.setCell ⟨bx, 3, none⟩ (.slice (some ⟨g7, 0, none⟩) (mm + 1) c7')) := Fr.setCell (X := fun b => b = bx) rfl _
                have hS8 := hS7'.fr hs8 (fun b e => by subst e; have := hV.bl; omega)
                go_roundw
                case rel => exact ⟨k + 1, mm + 1, _, _, by omega, by go_num, by rw [hyes.out, List.length_append, hlen]; simp; omega, hS8, by rw [hyes.out]; exact hP⟩
                case measure => simp [intOf]; omega
              · (go_simp; generalize (wr.alloc (Obj.cells #[.int .i64 (Q (k * 2)), .int .i64 (Q (k * 2 + 1))] 45)).drew = y0 at hE7 hV7 hS7 cx0 cx1 m3 m4 m5 v7 ⊢; refine tr hK (fun hHeld => ?_); clear hK K)
                refine tc 1 fun K hK => ?_
                (go_simp; refine tr hK (fun hHeld => ?_); clear hK K)
                refine tc 8 fun K hK => ?_
                refine step_appk (by rfl) _ _ _ (by rfl) lo 45 2 16 zcPair Tryz.underlying28 infoItPair (by rfl) (by decide) (.slice a3 mm c3) mm (ofL (gnL Q id k)) (by rfl) hV7.op wr.heap.size _ (ofL [Q (k * 2), Q (k * 2 + 1)]) (by rfl) (fun q hq => by rcases (show q = 0 ∨ q = 1 by omega) with rfl | rfl; exact cx0; exact cx1) (by unfold maxLen; omega) (by omega) (by have := hE7.size; have := hV.blt; have := hV.bl; omega) _ rfl ?_
                intro g7 c7' w7 ho7 hg7 hor7 hlt7
                have hF7 := Fr.grown (X := fun b => (Value.slice a3 mm c3).ownBlock = some b) hg7 (fun b e => e) hV7.op.isCells
                have nbx : ¬ (Value.slice a3 mm c3).ownBlock = some bx := fun e => (hV7.t2 bx e).2 rfl
                have k7c := (hF7.cell (p := ⟨bx, 3, none⟩) hV7.blt nbx).trans hV7.c3
                have k7f := (hF7.frozen (p := ⟨bx, 3, none⟩) hV7.blt nbx).trans (hV7.nf 3)
                have hS7' := hS7.fr hF7 (fun b e => by have := (hV7.op.lt b e).1; omega)
                have m3' := hS7'.wd.c3
                have hbl7 := hE7.size
                have nby : ¬ (Value.slice a3 mm c3).ownBlock = some b' := fun e => by have := (hV7.op.lt b' e).1; omega
                have m4' := (hF7.cell (p := ⟨b', o' + k * 2, none⟩) (by simp; omega) nby).trans m4
                have m5' := (hF7.cell (p := ⟨b', o' + k * 2 + 1, none⟩) (by simp; omega) nby).trans m5
                refine tr hK (fun hHeld => ?_) ⟨m3', m4', m5'⟩
                clear hK K
                refine tq 9 hHeld ?_
                refine tc 10 fun K hK => ?_
                (go_simp; refine tr hK (fun hHeld => ?_); clear hK K)
                refine wpAnyH_done (by kernel_rfl) ?_ _
                go_wp2_with fail
                have hn7 : g7 ≠ bx := by rcases hor7 with e | e; exact (hV7.t2 g7 e).2; (have := hV7.blt; omega)
                have hP := (hV7.setP hg7 ho7 (fun b e => by simp [Value.ownBlock] at e; omega)).top
                rw [← hlen, cat_ofL] at hP
                have hs8 : Fr (fun b => b = bx) w7 (w7.setCell ⟨bx, 3, none⟩ (.slice (some ⟨g7, 0, none⟩) (mm + 1) c7')) := Fr.setCell (X := fun b => b = bx) rfl _
                have hS8 := hS7'.fr hs8 (fun b e => by subst e; have := hV.bl; omega)
                go_roundw
                case rel => exact ⟨k + 1, mm + 1, _, _, by omega, by go_num, by rw [hyes.out, List.length_append, hlen]; simp; omega, hS8, by rw [hyes.out]; exact hP⟩
                case measure => simp [intOf]; omega
        · obtain rfl : k = m := by omega
          obtain rfl : mm = (gnL Q id k).length / 2 := by omega
          clear hlen y3
          have y0 := hS.wd.c0
          have y1 := hS.wd.c1
          have y2 := hS.wd.c2
          have y3 := hS.wd.c3
          have z0 := hS.z0
          have z1 := hS.z1
          have z2 := hS.z2
          have z3 := hS.z3
          have nf := hS.nf
          have bg := hS.big
          have v0 := hV.c0
          have v1 := hV.c1
          have v2 := hV.c2
          have v3 := hV.c3
          have vn := hV.nf
          have vb := hV.blt
          have vl := hV.bl
          
          go_wp2_with fail
          exact bodyPost_ret (v := .tuple #[worldW T P a6 (n - 1) c6 a3 ((gnL Q id k).length / 2) c3, .int .i64 0]) (by simp [results, Tryz.results5, go_sem, *]) rfl (WOut.of a6 c6 a3 c3 rfl (hV.out hS.wd.bel (by first | omega | (simp; done) | (simp; omega)) (by omega) _ _ _ _))
end Go.Proofs.YthekeeagjokpeaaGreat
namespace Go.Proofs.YthekeeagjokpeaaGreat
open Go.RowKit
set_option linter.unusedVariables false
set_option linter.unusedSimpArgs false
/-- what the law begins with -/
structure LfGone (w : World) (T P : Int) (a : Option Addr) (n c : Nat) (a' : Option Addr) (m c' : Nat)  (wr : World) : Prop where
  wd : WdR w T P a n c a' m c' wr
  big : w.heap.size < wr.heap.size
theorem LfGone.on {w wr w' : World} {T P : Int} {a a' : Option Addr} {n c m c' : Nat}  (h : LfGone w T P a n c a' m c' wr) (hb : Below wr.heap.size wr w') : LfGone w T P a n c a' m c' w' :=
  have bg := h.big
  ⟨h.wd.on hb, Nat.lt_of_lt_of_le h.big hb.size⟩
theorem LfGone.fr {X : Nat → Prop} {w wr w' : World} {T P : Int} {a a' : Option Addr} {n c m c' : Nat}  (h : LfGone w T P a n c a' m c' wr) (hs : Fr X wr w') (hX : ∀ b, X b → w.heap.size < b) : LfGone w T P a n c a' m c' w' := by
  have bg := h.big
  have n0 : ¬ X w.heap.size := fun x => by have := hX _ x; omega
  have k0 := fun j => hs.cell (p := ⟨w.heap.size, j, none⟩) (by simp; omega) n0
  exact ⟨⟨h.wd.bel.trans (hs.below (by omega) (fun b x => by have := hX b x; omega)), Nat.lt_of_lt_of_le h.wd.big hs.size, (k0 0).trans h.wd.c0, (k0 1).trans h.wd.c1, (k0 2).trans h.wd.c2, (k0 3).trans h.wd.c3⟩, Nat.lt_of_lt_of_le bg hs.size⟩
theorem LfGone.start (w : World) (T P : Int) (a a' : Option Addr) (n c m c' : Nat)  : LfGone w T P a n c a' m c' (w.alloc (Obj.cells #[.int .i64 T, .int .i64 P, .slice a n c, .slice a' m c'] 25)) :=
  ⟨⟨(Below.refl _ _).alloc (Nat.le_refl _) _, by simp, by go_simp, by go_simp, by go_simp, by go_simp⟩, by simp⟩
set_option maxRecDepth 20000 in
set_option maxHeartbeats 16000000 in
theorem fnExactWorldGone_walk (T P : Int) (a : Option Addr) (n c : Nat) (U : Nat → Int) (a' : Option Addr) (m c' : Nat) (Q : Nat → Int) (id : Int) (w : World) (h : Flat w a (n * 12) U) (h' : Flat w a' (m * 2) Q) (hn : (n : Int) ≤ 9223372036854775807) (hm : (m : Int) ≤ 9223372036854775807) :
    Calls Tryz.prog 3 #[worldW T P a n c a' m c', .int .i64 id] w fun e w' => e = .returned (.bool true) ∧ Below w.heap.size w w' := by
  have hset := cset_map
  by_cases h20 : n + m ≤ 1048576
  · obtain ⟨p, hp⟩ := idP_ex U id n
    obtain ⟨A, eA⟩ : ∃ A, goneWA T P n U m Q id p = A := ⟨_, rfl⟩
    obtain ⟨hn0, hm0⟩ : A.n ≤ 1048576 ∧ A.m ≤ 1048576 := by rw [← eA]; unfold goneWA; have hgl := gnL_len Q id m; cases worldB T P n U m Q <;> cases decide (p < n ∧ U (p * 12) = id) <;> (constructor <;> (first | (show n ≤ 1048576; omega) | (show m ≤ 1048576; omega) | (show n - 1 ≤ 1048576; omega) | (show (gnL Q id m).length / 2 ≤ 1048576; omega) | (show 0 ≤ 1048576; omega)))
    obtain ⟨T0, P0, n0, U0, m0, Q0, k0⟩ := A
    have HA : Shut (goneWA T P n U m Q id p = ⟨T0, P0, n0, U0, m0, Q0, k0⟩) := eA
    clear eA
    simp only at hn0 hm0
    go_enter Tryz.func3, Tryz.ntmps3
    go_upto_region 2 with fail
    go_cut [5] (fun s wc => ∃ z : Int, s = .int .i64 z ∧ 0 ≤ z ∧ LfGone w T P a n c a' m c' wc)
    case first =>
      go_wp2_with (go_at_call 4; refine (szWorld_any T P a n c a' m c' _ hn hm).mono ?_; rintro e w1 ⟨⟨z, rfl, hz1, hz2, hz3⟩, hb1⟩)
      go_meet
      exact ⟨z, rfl, hz1.2 h20, (LfGone.start w T P a a' n c m c' ).on hb1⟩
    case rest =>
    obtain ⟨z, rfl, hz, hB⟩ := hcut
    have hz' : ¬ z < 0 := by omega
    have y0 := hB.wd.c0
    have y1 := hB.wd.c1
    have y2 := hB.wd.c2
    have y3 := hB.wd.c3
    have yb := hB.big
    go_upto_region 5 with fail
    go_cut [6, 7] (fun s0 s1 wc => ∃ lw hw bw ew fw gw iw, s0 = .pointer (some ⟨bw, 0, none⟩) ∧ s1 = .int .i64 k0 ∧ w.heap.size < lw ∧ LfGone w T P a n c a' m c' wc ∧ Vw wc lw hw bw T0 P0 ew n0 fw U0 gw m0 iw Q0)
    case first =>
      go_wp2_with (first
        | (go_at_call 6; refine (toWorld_any T P a n c U a' m c' Q _ (h.below hB.wd.bel) (h'.below hB.wd.bel) (by omega) (by omega)).mono ?_; rintro e w2 ⟨tb, td, ts, rfl, tl, tla, tlb, tlc, tr1, tq1, hb2⟩)
        | (go_at_call 5; refine (sWorldGone_q T P _ n _ U _ m _ Q id p _ tr1.flat tq1.flat (by omega) (by omega) hp _ HA.out).mono ?_; rintro e w3 ⟨a3, c3, a4, c4, rfl, hO3⟩))
      go_meet
      have hb3 := hb2.trans (hO3.bel.mono hb2.size)
      have hO := hO3.under (w0 := wc) hb2
      have hE : Below w3.heap.size w3 (w3.alloc (.cells #[.int .i64 T0, .int .i64 P0, .slice a3 n0 c3, .slice a4 m0 c4] 30)) := (Below.refl _ _).alloc (Nat.le_refl _) _
      exact ⟨_, _, _, a3, c3, a4, c4, rfl, rfl, hB.big, (hB.on hb3).on hE, Vw.new hO⟩
    case rest =>
    clear hB y0 y1 y2 y3 yb
    obtain ⟨lw, hw, bw, ew, fw, gw, iw, rfl, rfl, g1, hB, hW⟩ := hcut
    have y0 := hB.wd.c0
    have y1 := hB.wd.c1
    have y2 := hB.wd.c2
    have y3 := hB.wd.c3
    have yb := hB.big
    have xw0 := hW.c0
    have xw1 := hW.c1
    have xw2 := hW.c2
    have xw3 := hW.c3
    have xbw := hW.blt
    have xlw := hW.bl
    go_upto_region 6 with fail
    go_cut [8] (fun s0 wc => ∃ lx hx bx ex fx gx ix, s0 = .pointer (some ⟨bx, 0, none⟩) ∧ hw ≤ lx ∧ LfGone w T P a n c a' m c' wc ∧ Vw wc lw hw bw T0 P0 ew n0 fw U0 gw m0 iw Q0 ∧ Vw wc lx hx bx T P ex n fx U gx m ix Q)
    case first =>
      go_wp2_with (go_at_call 6; refine (toWorld_any T P a n c U a' m c' Q _ (h.below hB.wd.bel) (h'.below hB.wd.bel) (by omega) (by omega)).mono ?_; rintro e w2 ⟨b2, d2, s2, rfl, hl2, hl2a, hl2b, hl2c, hr2, hq2, hb2⟩)
      go_meet
      have hO := Vw.rows (T := T) (P := P) hr2 hq2 hl2 (by omega) (by omega) (by omega) hb2
      have hE : Below w2.heap.size w2 (w2.alloc (.cells #[.int .i64 T, .int .i64 P, .slice (some ⟨b2, 0, none⟩) n n, .slice (some ⟨d2, 0, none⟩) m m] 30)) := (Below.refl _ _).alloc (Nat.le_refl _) _
      exact ⟨_, _, _, _, _, _, _, rfl, hW.le, (hB.on hb2).on hE, (hW.on hb2).on hE, Vw.new hO⟩
    case rest =>
    clear hB y0 y1 y2 y3 yb hW xw0 xw1 xw2 xw3 xbw xlw
    obtain ⟨lx, hx, bx, ex, fx, gx, ix, rfl, g2, hB, hW, hX⟩ := hcut
    have y0 := hB.wd.c0
    have y1 := hB.wd.c1
    have y2 := hB.wd.c2
    have y3 := hB.wd.c3
    have yb := hB.big
    have xw0 := hW.c0
    have xw1 := hW.c1
    have xw2 := hW.c2
    have xw3 := hW.c3
    have xbw := hW.blt
    have xlw := hW.bl
    have xx0 := hX.c0
    have xx1 := hX.c1
    have xx2 := hX.c2
    have xx3 := hX.c3
    have xbx := hX.blt
    have xlx := hX.bl
    have g4 : lx < hx := Nat.lt_of_le_of_lt hX.bl hX.bh
    go_upto_region 7 with fail
    go_cut [9, 10] (fun s0 s1 wc => ∃ lg hg bg eg fg gg ig, s0 = .pointer (some ⟨bg, 0, none⟩) ∧ s1 = .int .i64 k0 ∧ hx ≤ lg ∧ LfGone w T P a n c a' m c' wc ∧ Vw wc lw hw bw T0 P0 ew n0 fw U0 gw m0 iw Q0 ∧ Vw wc lx hx bx T P ex n fx U gx m ix Q ∧ Vw wc lg hg bg T0 P0 eg n0 fg U0 gg m0 ig Q0)
    case first =>
      go_wp2_with (go_at_call 7; refine (worldGone_q T P _ n _ U _ m _ Q id p _ hX.fb hX.fp (by omega) (by omega) hX.ob.capge hp _ HA.out).mono ?_; rintro e w3 ⟨a3, c3, a4, c4, rfl, hO3⟩)
      go_meet
      have hb3 := hO3.bel
      have hO := hO3
      have hE : Below w3.heap.size w3 (w3.alloc (.cells #[.int .i64 T0, .int .i64 P0, .slice a3 n0 c3, .slice a4 m0 c4] 30)) := (Below.refl _ _).alloc (Nat.le_refl _) _
      exact ⟨_, _, _, a3, c3, a4, c4, rfl, rfl, hX.le, (hB.on hb3).on hE, (hW.on hb3).on hE, (hX.on hb3).on hE, Vw.new hO⟩
    case rest =>
    clear hB y0 y1 y2 y3 yb hW xw0 xw1 xw2 xw3 xbw xlw hX xx0 xx1 xx2 xx3 xbx xlx
    obtain ⟨lg, hg, bg, eg, fg, gg, ig, rfl, rfl, g3, hB, hW, hX, hG⟩ := hcut
    have y0 := hB.wd.c0
    have y1 := hB.wd.c1
    have y2 := hB.wd.c2
    have y3 := hB.wd.c3
    have yb := hB.big
    have xw0 := hW.c0
    have xw1 := hW.c1
    have xw2 := hW.c2
    have xw3 := hW.c3
    have xbw := hW.blt
    have xlw := hW.bl
    have xx0 := hX.c0
    have xx1 := hX.c1
    have xx2 := hX.c2
    have xx3 := hX.c3
    have xbx := hX.blt
    have xlx := hX.bl
    have xg0 := hG.c0
    have xg1 := hG.c1
    have xg2 := hG.c2
    have xg3 := hG.c3
    have xbg := hG.blt
    have xlg := hG.bl
    go_upto_region 8 with fail
    go_cut [44] (fun s0 wc => s0 = .bool false ∧ LfGone w T P a n c a' m c' wc ∧ Vw wc lw hw bw T0 P0 ew n0 fw U0 gw m0 iw Q0 ∧ Vw wc lx hx bx T P ex n fx U gx m ix Q ∧ Vw wc lg hg bg T0 P0 eg n0 fg U0 gg m0 ig Q0)
    case first =>
      go_wp2_with (go_at_call 8; refine (eqWorld_same T0 P0 _ _ n0 _ _ U0 _ _ m0 _ _ Q0 _ hG.fb hW.fb hG.fp hW.fp hn0 hm0).mono ?_; rintro e w8 ⟨rfl, hb8⟩)
      go_meet
      exact ⟨by simp, hB.on hb8, hW.on hb8, hX.on hb8, hG.on hb8⟩
    case rest =>
    clear hB y0 y1 y2 y3 yb hW xw0 xw1 xw2 xw3 xbw xlw hX xx0 xx1 xx2 xx3 xbx xlx hG xg0 xg1 xg2 xg3 xbg xlg
    obtain ⟨rfl, hB, hW, hX, hG⟩ := hcut
    have y0 := hB.wd.c0
    have y1 := hB.wd.c1
    have y2 := hB.wd.c2
    have y3 := hB.wd.c3
    have yb := hB.big
    have xw0 := hW.c0
    have xw1 := hW.c1
    have xw2 := hW.c2
    have xw3 := hW.c3
    have xbw := hW.blt
    have xlw := hW.bl
    have xx0 := hX.c0
    have xx1 := hX.c1
    have xx2 := hX.c2
    have xx3 := hX.c3
    have xbx := hX.blt
    have xlx := hX.bl
    have xg0 := hG.c0
    have xg1 := hG.c1
    have xg2 := hG.c2
    have xg3 := hG.c3
    have xbg := hG.blt
    have xlg := hG.bl
    go_upto_region 10 with fail
    go_cut [49] (fun s0 wc => s0 = .bool false ∧ LfGone w T P a n c a' m c' wc ∧ Vw wc lw hw bw T0 P0 ew n0 fw U0 gw m0 iw Q0 ∧ Vw wc lx hx bx T P ex n fx U gx m ix Q ∧ Vw wc lg hg bg T0 P0 eg n0 fg U0 gg m0 ig Q0)
    case first =>
      refine wp_region_held_drew (S := fun w' => w'.cell? ⟨w.heap.size, 0, none⟩ = some (.int .i64 T) ∧ w'.cell? ⟨w.heap.size, 1, none⟩ = some (.int .i64 P) ∧ w'.cell? ⟨w.heap.size, 2, none⟩ = some (.slice a n c) ∧ w'.cell? ⟨w.heap.size, 3, none⟩ = some (.slice a' m c') ∧ w'.cell? ⟨bx, 0, none⟩ = some (.int .i64 T) ∧ w'.cell? ⟨bx, 1, none⟩ = some (.int .i64 P) ∧ w'.cell? ⟨bx, 2, none⟩ = some (.slice ex n fx) ∧ w'.cell? ⟨bx, 3, none⟩ = some (.slice gx m ix)) (by kernel_rfl) ?_ (fun hHeld => ?_)
      · (try dsimp only)
        (first | (go_simp; done) | (go_keep; done))
      refine tq 0 hHeld ?_
      refine tq 1 hHeld ?_
      (refine tc 2 fun K hK => ?_; go_simp; (go_at_call 6; refine (toWorld_any T P a n c U a' m c' Q _ (h.below hB.wd.bel.drew) (h'.below hB.wd.bel.drew) (by omega) (by omega)).mono ?_; rintro e w6 ⟨b6, d6, s6, rfl, hl6, hl6a, hl6b, hl6c, hr6, hq6, hb6⟩; have hB6 := hB.on hb6.ofDr; have hX6 := hX.on hb6.ofDr; have y60 := hB6.wd.c0; have y61 := hB6.wd.c1; have y62 := hB6.wd.c2; have y63 := hB6.wd.c3; have yb6 := hB6.big; have x6x0 := hX6.c0; have x6x1 := hX6.c1; have x6x2 := hX6.c2; have x6x3 := hX6.c3; have xb6x := hX6.blt; have xl6x := hX6.bl); (try go_wp2_with fail); refine tr hK (fun hHeld => ?_); clear hK K)
      (refine tc 3 fun K hK => ?_; go_simp; (go_at_call 8; refine (eqWorld_same T P _ _ n _ _ U _ _ m _ _ Q _ hX6.fb hr6.flat hX6.fp hq6.flat (by omega) (by omega)).mono ?_; rintro e w7 ⟨rfl, hb7⟩; have hB7 := hB6.on hb7; have hX7 := hX6.on hb7; have y70 := hB7.wd.c0; have y71 := hB7.wd.c1; have y72 := hB7.wd.c2; have y73 := hB7.wd.c3; have yb7 := hB7.big; have x7x0 := hX7.c0; have x7x1 := hX7.c1; have x7x2 := hX7.c2; have x7x3 := hX7.c3; have xb7x := hX7.blt; have xl7x := hX7.bl); (try go_wp2_with fail); refine tr hK (fun hHeld => ?_); clear hK K)
      refine tq 4 hHeld ?_
      refine wpAnyH_done (by kernel_rfl) ?_ _
      go_wp2_with fail
      go_meet
      have hb67 := (hb6.trans (hb7.mono hb6.size)).ofDr
      exact ⟨rfl, hB7, hW.on hb67, hX7, hG.on hb67⟩
    case rest =>
    clear hB y0 y1 y2 y3 yb hW xw0 xw1 xw2 xw3 xbw xlw hX xx0 xx1 xx2 xx3 xbx xlx hG xg0 xg1 xg2 xg3 xbg xlg
    obtain ⟨rfl, hB, hW, hX, hG⟩ := hcut
    have y0 := hB.wd.c0
    have y1 := hB.wd.c1
    have y2 := hB.wd.c2
    have y3 := hB.wd.c3
    have yb := hB.big
    have xw0 := hW.c0
    have xw1 := hW.c1
    have xw2 := hW.c2
    have xw3 := hW.c3
    have xbw := hW.blt
    have xlw := hW.bl
    have xx0 := hX.c0
    have xx1 := hX.c1
    have xx2 := hX.c2
    have xx3 := hX.c3
    have xbx := hX.blt
    have xlx := hX.bl
    have xg0 := hG.c0
    have xg1 := hG.c1
    have xg2 := hG.c2
    have xg3 := hG.c3
    have xbg := hG.blt
    have xlg := hG.bl
    go_upto_region 13 with fail
    go_cut [11] (fun s0 wc => s0 = .int .i64 (1 + (n : Int) * 12 + (m : Int) * 2) ∧ LfGone w T P a n c a' m c' wc ∧ Vw wc lw hw bw T0 P0 ew n0 fw U0 gw m0 iw Q0 ∧ Vw wc lg hg bg T0 P0 eg n0 fg U0 gg m0 ig Q0)
    case first =>
      go_wp2_with (go_at_call 9; refine (markWorld_own T P lx _ n _ U _ m _ Q _ hX.ob hX.op (by omega) (by omega)).mono ?_; rintro e w2 ⟨rfl, hf2, _, _⟩)
      go_meet
      have q1 := hW.bl
      have q2 := hW.bh
      exact ⟨rfl, hB.fr hf2 (fun b e => by have := hX.xlt b e; omega), hW.fr hf2 (fun b e => by have := hX.xlt b e; omega), hG.fr hf2 (fun b e => by have := hX.xlt b e; omega)⟩
    case rest =>
    clear hB y0 y1 y2 y3 yb hW xw0 xw1 xw2 xw3 xbw xlw hX xx0 xx1 xx2 xx3 xbx xlx hG xg0 xg1 xg2 xg3 xbg xlg
    obtain ⟨rfl, hB, hW, hG⟩ := hcut
    have y0 := hB.wd.c0
    have y1 := hB.wd.c1
    have y2 := hB.wd.c2
    have y3 := hB.wd.c3
    have yb := hB.big
    have xw0 := hW.c0
    have xw1 := hW.c1
    have xw2 := hW.c2
    have xw3 := hW.c3
    have xbw := hW.blt
    have xlw := hW.bl
    have xg0 := hG.c0
    have xg1 := hG.c1
    have xg2 := hG.c2
    have xg3 := hG.c3
    have xbg := hG.blt
    have xlg := hG.bl
    have hk0 : ¬ (1 + (n : Int) * 12 + (m : Int) * 2 < 0) := by omega
    go_upto_region 14 with fail
    go_cut [65] (fun s0 wc => s0 = .bool false ∧ LfGone w T P a n c a' m c' wc ∧ Vw wc lw hw bw T0 P0 ew n0 fw U0 gw m0 iw Q0 ∧ Vw wc lg hg bg T0 P0 eg n0 fg U0 gg m0 ig Q0)
    case first =>
      go_wp2_with (go_at_call 8; refine (eqWorld_same T0 P0 _ _ n0 _ _ U0 _ _ m0 _ _ Q0 _ hG.fb hW.fb hG.fp hW.fp hn0 hm0).mono ?_; rintro e w8 ⟨rfl, hb8⟩)
      go_meet
      exact ⟨by simp, hB.on hb8, hW.on hb8, hG.on hb8⟩
    case rest =>
    clear hB y0 y1 y2 y3 yb hW xw0 xw1 xw2 xw3 xbw xlw hG xg0 xg1 xg2 xg3 xbg xlg
    obtain ⟨rfl, hB, hW, hG⟩ := hcut
    have y0 := hB.wd.c0
    have y1 := hB.wd.c1
    have y2 := hB.wd.c2
    have y3 := hB.wd.c3
    have yb := hB.big
    have xw0 := hW.c0
    have xw1 := hW.c1
    have xw2 := hW.c2
    have xw3 := hW.c3
    have xbw := hW.blt
    have xlw := hW.bl
    have xg0 := hG.c0
    have xg1 := hG.c1
    have xg2 := hG.c2
    have xg3 := hG.c3
    have xbg := hG.blt
    have xlg := hG.bl
    go_upto_region 17 with fail
    go_cut [12] (fun s0 wc => s0 = .int .i64 (1 + (n0 : Int) * 12 + (m0 : Int) * 2) ∧ LfGone w T P a n c a' m c' wc ∧ Vw wc lw hw bw T0 P0 ew n0 fw U0 gw m0 iw Q0 ∧ Vw wc lg hg bg T0 P0 eg n0 fg (fun q => 1 + (q : Int)) gg m0 ig (fun q => 1 + (n0 : Int) * 12 + (q : Int)))
    case first =>
      go_wp2_with (go_at_call 9; refine (markWorld_own T0 P0 lg _ n0 _ U0 _ m0 _ Q0 _ hG.ob hG.op hn0 hm0).mono ?_; rintro e w2 ⟨rfl, hf2, o2, p2⟩)
      go_meet
      have q1 := hW.bl
      have q2 := hW.bh
      exact ⟨rfl, hB.fr hf2 (fun b e => by have := hG.xlt b e; omega), hW.fr hf2 (fun b e => by have := hG.xlt b e; omega), hG.mark hf2 o2 p2⟩
    case rest =>
    clear hB y0 y1 y2 y3 yb hW xw0 xw1 xw2 xw3 xbw xlw hG xg0 xg1 xg2 xg3 xbg xlg
    obtain ⟨rfl, hB, hW, hG⟩ := hcut
    have y0 := hB.wd.c0
    have y1 := hB.wd.c1
    have y2 := hB.wd.c2
    have y3 := hB.wd.c3
    have yb := hB.big
    have xw0 := hW.c0
    have xw1 := hW.c1
    have xw2 := hW.c2
    have xw3 := hW.c3
    have xbw := hW.blt
    have xlw := hW.bl
    have xg0 := hG.c0
    have xg1 := hG.c1
    have xg2 := hG.c2
    have xg3 := hG.c3
    have xbg := hG.blt
    have xlg := hG.bl
    have hk1 : ¬ ((1 + (n0 : Int) * 12 + (m0 : Int) * 2) < 0) := by omega
    go_upto_region 19 with fail
    go_cut [13] (fun s0 wc => s0 = .int .i64 (1 + (n0 : Int) * 12 + (m0 : Int) * 2) ∧ LfGone w T P a n c a' m c' wc ∧ Vw wc lw hw bw T0 P0 ew n0 fw U0 gw m0 iw Q0 ∧ Vw wc lg hg bg T0 P0 eg n0 fg (fun q => 1 + (q : Int)) gg m0 ig (fun q => 1 + (n0 : Int) * 12 + (q : Int)))
    case first =>
      go_wp2_with (go_at_call 10; refine (heldWorld_own T0 P0 _ n0 _ _ m0 _ _ hG.fb hG.fp hn0 hm0).mono ?_; rintro e w2 ⟨rfl, hb2⟩)
      go_meet
      exact ⟨rfl, hB.on hb2, hW.on hb2, hG.on hb2⟩
    case rest =>
    clear hB y0 y1 y2 y3 yb hW xw0 xw1 xw2 xw3 xbw xlw hG xg0 xg1 xg2 xg3 xbg xlg
    obtain ⟨rfl, hB, hW, hG⟩ := hcut
    have y0 := hB.wd.c0
    have y1 := hB.wd.c1
    have y2 := hB.wd.c2
    have y3 := hB.wd.c3
    have yb := hB.big
    have xw0 := hW.c0
    have xw1 := hW.c1
    have xw2 := hW.c2
    have xw3 := hW.c3
    have xbw := hW.blt
    have xlw := hW.bl
    have xg0 := hG.c0
    have xg1 := hG.c1
    have xg2 := hG.c2
    have xg3 := hG.c3
    have xbg := hG.blt
    have xlg := hG.bl
    go_upto_region 24 with fail
    go_cut [14, 15] (fun s0 s1 wc => ∃ lh hh bh eh fh gh ih, s0 = .pointer (some ⟨bh, 0, none⟩) ∧ s1 = .int .i64 k0 ∧ LfGone w T P a n c a' m c' wc ∧ Vw wc lw hw bw T0 P0 ew n0 fw U0 gw m0 iw Q0 ∧ Vw wc lg hg bg T0 P0 eg n0 fg (fun q => 1 + (q : Int)) gg m0 ig (fun q => 1 + (n0 : Int) * 12 + (q : Int)) ∧ Vw wc lh hh bh T0 P0 eh n0 fh U0 gh m0 ih Q0)
    case first =>
      go_wp2_with (first
        | (go_at_call 6; refine (toWorld_any T P a n c U a' m c' Q _ (h.below hB.wd.bel) (h'.below hB.wd.bel) (by omega) (by omega)).mono ?_; rintro e w2 ⟨tb, td, ts, rfl, tl, tla, tlb, tlc, tr1, tq1, hb2⟩)
        | (go_at_call 7; refine (worldGone_q T P _ n _ U _ m _ Q id p _ tr1.flat tq1.flat (by omega) (by omega) (Nat.le_refl _) hp _ HA.out).mono ?_; rintro e w3 ⟨a3, c3, a4, c4, rfl, hO3⟩))
      go_meet
      have hb3 := hb2.trans (hO3.bel.mono hb2.size)
      have hO := hO3.under (w0 := wc) hb2
      have hE : Below w3.heap.size w3 (w3.alloc (.cells #[.int .i64 T0, .int .i64 P0, .slice a3 n0 c3, .slice a4 m0 c4] 30)) := (Below.refl _ _).alloc (Nat.le_refl _) _
      exact ⟨_, _, _, a3, c3, a4, c4, rfl, rfl, (hB.on hb3).on hE, (hW.on hb3).on hE, (hG.on hb3).on hE, Vw.new hO⟩
    case rest =>
    clear hB y0 y1 y2 y3 yb hW xw0 xw1 xw2 xw3 xbw xlw hG xg0 xg1 xg2 xg3 xbg xlg
    obtain ⟨lh, hh, bh, eh, fh, gh, ih, rfl, rfl, hB, hW, hG, hH⟩ := hcut
    have y0 := hB.wd.c0
    have y1 := hB.wd.c1
    have y2 := hB.wd.c2
    have y3 := hB.wd.c3
    have yb := hB.big
    have xw0 := hW.c0
    have xw1 := hW.c1
    have xw2 := hW.c2
    have xw3 := hW.c3
    have xbw := hW.blt
    have xlw := hW.bl
    have xg0 := hG.c0
    have xg1 := hG.c1
    have xg2 := hG.c2
    have xg3 := hG.c3
    have xbg := hG.blt
    have xlg := hG.bl
    have xh0 := hH.c0
    have xh1 := hH.c1
    have xh2 := hH.c2
    have xh3 := hH.c3
    have xbh := hH.blt
    have xlh := hH.bl
    go_upto_region 25 with fail
    go_cut [92] (fun s0 wc => s0 = .bool false ∧ LfGone w T P a n c a' m c' wc ∧ Vw wc lg hg bg T0 P0 eg n0 fg (fun q => 1 + (q : Int)) gg m0 ig (fun q => 1 + (n0 : Int) * 12 + (q : Int)))
    case first =>
      go_wp2_with (go_at_call 8; refine (eqWorld_same T0 P0 _ _ n0 _ _ U0 _ _ m0 _ _ Q0 _ hH.fb hW.fb hH.fp hW.fp hn0 hm0).mono ?_; rintro e w9 ⟨rfl, hb9⟩)
      go_meet
      exact ⟨by simp, hB.on hb9, hG.on hb9⟩
    case rest =>
    clear hB y0 y1 y2 y3 yb hW xw0 xw1 xw2 xw3 xbw xlw hG xg0 xg1 xg2 xg3 xbg xlg hH xh0 xh1 xh2 xh3 xbh xlh
    obtain ⟨rfl, hB, hG⟩ := hcut
    have y0 := hB.wd.c0
    have y1 := hB.wd.c1
    have y2 := hB.wd.c2
    have y3 := hB.wd.c3
    have yb := hB.big
    have xg0 := hG.c0
    have xg1 := hG.c1
    have xg2 := hG.c2
    have xg3 := hG.c3
    have xbg := hG.blt
    have xlg := hG.bl
    go_upto_region 28 with fail
    go_wp2_with (go_at_call 10; refine (heldWorld_own T0 P0 _ n0 _ _ m0 _ _ hG.fb hG.fp hn0 hm0).mono ?_; rintro e w2 ⟨rfl, hb2⟩)
    go_ret
    exact ⟨rfl, (hB.on hb2).wd.bel⟩
  · go_enter Tryz.func3, Tryz.ntmps3
    go_upto_region 2 with fail
    go_cut [5] (fun s wc => ∃ z : Int, s = .int .i64 z ∧ z < 0 ∧ Below w.heap.size w wc)
    case first =>
      go_wp2_with (go_at_call 4; refine (szWorld_any T P a n c a' m c' _ hn hm).mono ?_; rintro e w1 ⟨⟨z, rfl, hz1, hz2, hz3⟩, hb1⟩)
      go_meet
      exact ⟨z, rfl, by omega, by repeat (first | with_reducible apply Below.refl | (with_reducible apply Below.setCell; rotate_left; focus (first | omega | (simp; done) | (simp; omega))) | (with_reducible apply Below.alloc; rotate_left; focus (first | omega | (simp; done) | (simp; omega))) | with_reducible apply Below.drew | with_reducible apply belowDrewN | (with_reducible apply Below.trans; rotate_left; with_reducible apply Below.mono; with_reducible assumption; focus (first | omega | (simp; done) | (simp; omega))))⟩
    case rest =>
    obtain ⟨z, rfl, hz, hB⟩ := hcut
    go_wp2
    go_ret
    exact ⟨rfl, hB⟩
end Go.Proofs.YthekeeagjokpeaaGreat
namespace Go.Proofs.YthekeeagjokpeaaGreat
theorem head_cut {l : List (List Char)} {c : List Char} (h : (l.head? == some c) = true) : ∃ rest, l = c :: rest := by
  cases l with
  | nil => simp at h
  | cons a r => simp at h; exact ⟨r, by rw [h]⟩
theorem strip_cut (rest : List (List Char)) : stripLifts liftWords ("cut".toList :: rest) = ([], "cut".toList :: rest) := by kernel_rfl
theorem make_of {P : Program} {l : List Char} (h0 : P.initOrder.toList = l) (h1 : ((behindMainWord (wordsSigns l)).head? == some "cut".toList) = true) : P.make = some .cut := by
  obtain ⟨rest, hr⟩ := head_cut h1
  unfold Program.make
  rw [h0, hr]
  rfl
theorem headLifts_of {P : Program} {l : List Char} (h0 : P.initOrder.toList = l) (h1 : ((behindMainWord (wordsSigns l)).head? == some "cut".toList) = true) : P.headLifts = [] := by
  obtain ⟨rest, hr⟩ := head_cut h1
  unfold Program.headLifts
  rw [h0, hr, strip_cut]
  rfl
theorem liftsFinal_of {P : Program} {l : List Char} (h0 : P.initOrder.toList = l) (h1 : ((behindMainWord (wordsSigns l)).head? == some "cut".toList) = true) : P.liftsFinal = false := by
  have hh := headLifts_of h0 h1
  obtain ⟨rest, hr⟩ := head_cut h1
  unfold Program.liftsFinal
  rw [h0, hr, hh]
  rfl
theorem mayEnter_of {P : Program} {l : List Char} (h0 : P.initOrder.toList = l) (h1 : ((behindMainWord (wordsSigns l)).head? == some "cut".toList) = true) (h2 : P.laysLater = false) (h3 : P.bearsReflect = false) (h4 : P.doorFits [] = true) : P.mayEnter = true := by
  obtain ⟨rest, hr⟩ := head_cut h1
  unfold Program.mayEnter
  rw [h0, hr]
  simp only [strip_cut, h2, h3, h4]
  simp
end Go.Proofs.YthekeeagjokpeaaGreat
namespace Go.Proofs.YthekeeagjokpeaaGreat
set_option maxRecDepth 100000
def ordL : { l : List Char // Tryz.prog.initOrder = String.ofList l } := ⟨_, rfl⟩
theorem ordT : Tryz.prog.initOrder.toList = ordL.1 := (congrArg String.toList ordL.2).trans String.toList_ofList
theorem headE : ((behindMainWord (wordsSigns ordL.1)).head? == some "cut".toList) = true := by kernel_rfl
theorem makeT : Tryz.prog.make = some .cut := make_of ordT headE
theorem liftsFinalT : Tryz.prog.liftsFinal = false := liftsFinal_of ordT headE
theorem laysLaterT : Tryz.prog.laysLater = false := by kernel_rfl
theorem bearsReflectT : Tryz.prog.bearsReflect = false := by kernel_rfl
theorem doorFitsT : Tryz.prog.doorFits [] = true := by kernel_rfl
theorem mayEnterT : Tryz.prog.mayEnter = true := mayEnter_of ordT headE laysLaterT bearsReflectT doorFitsT
theorem ownT : ownKnob Tryz.prog.godebug = none := by kernel_rfl
theorem laidOutT : laidOutB Tryz.prog = true := by kernel_rfl
theorem mapsRowedT : mapsRowed Tryz.prog = true := by kernel_rfl
theorem stopsHeardT : Tryz.prog.stopsHeard = true := by kernel_rfl
theorem plainKeysT : Tryz.prog.plainKeys = true := by kernel_rfl
end Go.Proofs.YthekeeagjokpeaaGreat
namespace Go.Proofs.YthekeeagjokpeaaGreat
open Go.RowKit Go.ChangeShapes Go.WideShapes Go.Deep
set_option linter.unusedVariables false
set_option linter.unusedSimpArgs false
/-- what is read at the type is k numbers -/
def IntsOf (P : Program) (e : TypeId) (k : Nat) : Prop :=
  ∀ (H : Type) (enc : TypeId × Value → H) (w : World) (base : Nat) (spare : Nat → Bool) (held : Bool) (fuel : Nat) (cs : List Value) (x : DataW H × List MemPlace),
    DataW.trod enc P w base spare held fuel e cs = some x → cs.length = k ∧ ∀ j, j < k → ∃ v : Int, cs[j]? = some (.int .i64 v) ∧ (Lit.int .i64 v).wf = true
theorem IntsOf.int {P : Program} {e : TypeId} (h : P.underlying e = some (.int .i64)) : IntsOf P e 1 := by
  intro H enc w base spare held fuel cs x hx
  obtain ⟨v, h1, _, h3⟩ := DataW.trod_int h hx
  subst h1
  refine ⟨rfl, fun j hj => ?_⟩
  obtain rfl : j = 0 := by omega
  exact ⟨v, rfl, h3⟩
theorem IntsOf.struct {P : Program} {t : TypeId} {k : Nat} {fs : Array Field} (cs_ : List Nat) (ht : P.underlying t = some (.struct fs)) (hk : P.cellsOf t = k)
    (hf : ∀ (i : Nat) (f : Field) (c : Nat), fs[i]? = some f → cs_[i]? = some c → P.cellsOf f.type = c ∧ IntsOf P f.type c)
    (cover : (List.range k).all (fun j => (List.range fs.size).any fun i => match fs[i]?, cs_[i]? with | some f, some c => decide (f.offset ≤ j ∧ j < f.offset + c) | _, _ => false) = true) : IntsOf P t k := by
  intro H enc w base spare held fuel cs x hx
  obtain ⟨xs, n, _, _, hl, hlen, hg⟩ := DataW.trod_struct ht hx
  rw [hk] at hl
  refine ⟨hl, fun j hj => ?_⟩
  rw [List.all_eq_true] at cover
  have c1 := cover j (List.mem_range.2 hj)
  rw [List.any_eq_true] at c1
  obtain ⟨i, hi, hm⟩ := c1
  have hi' := List.mem_range.1 hi
  cases hfi : fs[i]? with
  | none => simp [hfi] at hm
  | some f =>
    cases hci : cs_[i]? with
    | none => simp [hfi, hci] at hm
    | some c =>
      simp only [hfi, hci, decide_eq_true_eq] at hm
      obtain ⟨hc, hI⟩ := hf i f c hfi hci
      have g := hg i f hfi
      rw [hc] at g
      have hxi : i < xs.length := by rw [hlen]; exact hi'
      rw [List.getElem?_eq_getElem hxi] at g
      obtain ⟨_, q⟩ := hI H enc w base spare held _ _ _ g
      obtain ⟨v, hv, hw⟩ := q (j - f.offset) (by omega)
      refine ⟨v, ?_, hw⟩
      rw [List.getElem?_take, if_pos (by omega), List.getElem?_drop, show f.offset + (j - f.offset) = j by omega] at hv
      exact hv
theorem open_flat {P : Program} {t e : TypeId} {k : Nat} (hk0 : 0 < k) (ht : P.underlying t = some (.slice e)) (hk : P.cellsOf e = k) (hE : IntsOf P e k)
    {H : Type} {enc : TypeId × Value → H} {w : World} {base : Nat} {spare : Nat → Bool} {held : Bool} {fuel : Nat} {v : Value} {x : DataW H × List MemPlace}
    (h : DataW.trod enc P w base spare held fuel t [v] = some x) :
    ∃ (a : Option Addr) (n c : Nat) (U : Nat → Int), v = .slice a n c ∧ (n : Int) ≤ 9223372036854775807 ∧ Flat w a (n * k) U ∧ ∀ q, q < n * k → (Lit.int .i64 (U q)).wf = true := by
  rcases open_slice ht h with ⟨hc, _⟩ | ⟨a, len, cap, m, fu, D, Pl, hc, hb, hl, hm, hmm, _, hall⟩
  · simp only [List.cons.injEq, and_true] at hc
    subst hc
    exact ⟨none, 0, 0, fun _ => 0, rfl, by omega, by rw [Nat.zero_mul]; exact Flat.nil, fun q hq => by omega⟩
  · simp only [List.cons.injEq, and_true] at hc
    subst hc
    have hlm : len ≤ m := by rw [hmm]; split <;> omega
    have one : ∀ q, q < len * k → ∃ z : Int, w.cell? (a.add q) = some (.int .i64 z) ∧ (Lit.int .i64 z).wf = true := by
      intro q hq
      have hi : q / k < len := Nat.div_lt_of_lt_mul (by rw [Nat.mul_comm]; exact hq)
      obtain ⟨cs', h1, h2⟩ := hall (q / k) (by omega)
      obtain ⟨_, hlen, hcell⟩ := World.cells?_some h1
      obtain ⟨_, hv⟩ := hE H enc w base spare held _ _ _ h2
      obtain ⟨z, hz, hw⟩ := hv (q % k) (Nat.mod_lt _ hk0)
      have := hcell (q % k) (by rw [hk]; exact Nat.mod_lt _ hk0)
      rw [hz, hk, add_add, Nat.mul_comm, Nat.div_add_mod] at this
      exact ⟨z, this, hw⟩
    obtain ⟨U, hU⟩ := choose_lt one
    refine ⟨some a, len, cap, U, rfl, by unfold maxLen at hm; omega, ?_, fun q hq => (hU q hq).2⟩
    intro h0
    obtain ⟨b, o, spot⟩ := a
    have g0 := (hU 0 h0).1
    have hspot : spot = none := by simpa [Addr.add] using World.cell?_spot g0
    subst hspot
    have hbl := World.block_lt_of_cell? w _ g0
    simp only [Addr.add, if_true] at hbl
    refine ⟨b, o, rfl, hbl, fun q hq => ?_⟩
    have := (hU q hq).1
    by_cases hq0 : q = 0
    · subst hq0; simpa [Addr.add] using this
    · simpa [Addr.add, hq0] using this
end Go.Proofs.YthekeeagjokpeaaGreat
namespace Go.Proofs.YthekeeagjokpeaaGreat
open Go.RowKit Go.ChangeShapes Go.WideShapes Go.Deep
set_option linter.unusedVariables false
set_option linter.unusedSimpArgs false
theorem cellsI : Tryz.prog.cellsOf 3 = 1 := by kernel_rfl
theorem cellsV : Tryz.prog.cellsOf 73 = 2 := by kernel_rfl
theorem cellsSh : Tryz.prog.cellsOf 72 = 3 := by kernel_rfl
theorem cellsBd : Tryz.prog.cellsOf 75 = 12 := by kernel_rfl
theorem cellsSlB : Tryz.prog.cellsOf 22 = 1 := by kernel_rfl
theorem intsI : IntsOf Tryz.prog 3 1 := IntsOf.int Tryz.underlying3
theorem intsV : IntsOf Tryz.prog 73 2 := IntsOf.struct [1, 1] Tryz.underlying73 (by kernel_rfl) (fun i f c h1 h2 => match i, h1, h2 with
  | 0, h1, h2 => by cases h1; cases h2; exact ⟨cellsI, intsI⟩
  | 1, h1, h2 => by cases h1; cases h2; exact ⟨cellsI, intsI⟩
  | _ + 2, h1, h2 => by simp at h2) (by decide)
theorem intsSh : IntsOf Tryz.prog 72 3 := IntsOf.struct [1, 1, 1] Tryz.underlying72 (by kernel_rfl) (fun i f c h1 h2 => match i, h1, h2 with
  | 0, h1, h2 => by cases h1; cases h2; exact ⟨cellsI, intsI⟩
  | 1, h1, h2 => by cases h1; cases h2; exact ⟨cellsI, intsI⟩
  | 2, h1, h2 => by cases h1; cases h2; exact ⟨cellsI, intsI⟩
  | _ + 3, h1, h2 => by simp at h2) (by decide)
theorem intsBd : IntsOf Tryz.prog 75 12 := IntsOf.struct [1, 3, 2, 2, 1, 1, 1, 1] Tryz.underlying75 (by kernel_rfl) (fun i f c h1 h2 => match i, h1, h2 with
  | 0, h1, h2 => by cases h1; cases h2; exact ⟨cellsI, intsI⟩
  | 1, h1, h2 => by cases h1; cases h2; exact ⟨cellsSh, intsSh⟩
  | 2, h1, h2 => by cases h1; cases h2; exact ⟨cellsV, intsV⟩
  | 3, h1, h2 => by cases h1; cases h2; exact ⟨cellsV, intsV⟩
  | 4, h1, h2 => by cases h1; cases h2; exact ⟨cellsI, intsI⟩
  | 5, h1, h2 => by cases h1; cases h2; exact ⟨cellsI, intsI⟩
  | 6, h1, h2 => by cases h1; cases h2; exact ⟨cellsI, intsI⟩
  | 7, h1, h2 => by cases h1; cases h2; exact ⟨cellsI, intsI⟩
  | _ + 8, h1, h2 => by simp at h2) (by decide)
set_option maxRecDepth 100000 in
theorem open_bodies {H : Type} {enc : TypeId × Value → H} {W : World} {base b0 : Nat} {spare : Nat → Bool} {held : Bool} {v : Value} {d : DataW H} {p : List MemPlace}
    (hv : Value.okWide Tryz.prog W .any b0 22 v) (h : DataW.Trod enc Tryz.prog W base spare held 22 v d p) :
    ∃ (a : Option Addr) (n c : Nat) (U : Nat → Int), v = .slice a n c ∧ (n : Int) ≤ 9223372036854775807 ∧ Flat W a (n * 12) U ∧ ∀ q, q < n * 12 → (Lit.int .i64 (U q)).wf = true := by
  obtain ⟨a0, len, cap, rfl⟩ := okWide_slice Tryz.underlying22 hv
  obtain ⟨fuel, hf⟩ := h
  exact open_flat (by decide) Tryz.underlying22 cellsBd intsBd hf
end Go.Proofs.YthekeeagjokpeaaGreat
namespace Go.Proofs.YthekeeagjokpeaaGreat
open Go.RowKit Go.ChangeShapes Go.WideShapes Go.Deep
set_option linter.unusedVariables false
set_option linter.unusedSimpArgs false
theorem cellsPr : Tryz.prog.cellsOf 77 = 2 := by kernel_rfl
theorem cellsSlP : Tryz.prog.cellsOf 23 = 1 := by kernel_rfl
theorem cellsWd : Tryz.prog.cellsOf 25 = 4 := by kernel_rfl
theorem intsPr : IntsOf Tryz.prog 77 2 := IntsOf.struct [1, 1] Tryz.underlying77 (by kernel_rfl) (fun i f c h1 h2 => match i, h1, h2 with
  | 0, h1, h2 => by cases h1; cases h2; exact ⟨cellsI, intsI⟩
  | 1, h1, h2 => by cases h1; cases h2; exact ⟨cellsI, intsI⟩
  | _ + 2, h1, h2 => by simp at h2) (by decide)
theorem array4 {α : Type} {cs : Array α} (h : cs.size = 4) : ∃ c0 c1 c2 c3, cs = #[c0, c1, c2, c3] := by
  obtain ⟨l⟩ := cs
  match l, h with
  | [c0, c1, c2, c3], _ => exact ⟨c0, c1, c2, c3, rfl⟩
set_option maxRecDepth 100000 in
theorem open_world {H : Type} {enc : TypeId × Value → H} {W : World} {base b0 : Nat} {spare : Nat → Bool} {held : Bool} {v : Value} {d : DataW H} {p : List MemPlace}
    (hv : Value.okWide Tryz.prog W .any b0 25 v) (h : DataW.Trod enc Tryz.prog W base spare held 25 v d p) :
    ∃ (T P : Int) (a : Option Addr) (n c : Nat) (U : Nat → Int) (a' : Option Addr) (m c' : Nat) (Q : Nat → Int), v = .agg #[.int .i64 T, .int .i64 P, .slice a n c, .slice a' m c'] ∧ (n : Int) ≤ 9223372036854775807 ∧ (m : Int) ≤ 9223372036854775807 ∧ Flat W a (n * 12) U ∧ Flat W a' (m * 2) Q := by
  obtain ⟨cs, rfl, hsz⟩ := okWide_struct Tryz.underlying25 hv
  obtain ⟨c0, c1, c2, c3, rfl⟩ := array4 (hsz.trans cellsWd)
  obtain ⟨fuel, hf0⟩ := h
  obtain ⟨xs, n, _, hx, hl, hlen, hf⟩ := DataW.trod_struct Tryz.underlying25 hf0
  match xs, hlen with
  | [y0, y1, y2, y3], _ =>
    have k0 : DataW.trod enc Tryz.prog W base spare held n 3 [c0] = some y0 := by simpa [Value.cells, cellsI] using hf 0 _ rfl
    have k1 : DataW.trod enc Tryz.prog W base spare held n 3 [c1] = some y1 := by simpa [Value.cells, cellsI] using hf 1 _ rfl
    have k2 : DataW.trod enc Tryz.prog W base spare held n 22 [c2] = some y2 := by simpa [Value.cells, cellsSlB] using hf 2 _ rfl
    have k3 : DataW.trod enc Tryz.prog W base spare held n 23 [c3] = some y3 := by simpa [Value.cells, cellsSlP] using hf 3 _ rfl
    obtain ⟨T, e0, _, w0⟩ := DataW.trod_int Tryz.underlying3 k0
    obtain ⟨P, e1, _, w1⟩ := DataW.trod_int Tryz.underlying3 k1
    obtain ⟨a, n1, c, U, rfl, hn, hF, _⟩ := open_flat (by decide) Tryz.underlying22 cellsBd intsBd k2
    obtain ⟨a', m, c', Q, rfl, hm, hF', _⟩ := open_flat (by decide) Tryz.underlying23 cellsPr intsPr k3
    simp only [List.cons.injEq, and_true] at e0 e1
    subst e0 e1
    exact ⟨T, P, a, n1, c, U, a', m, c', Q, rfl, hn, hm, hF, hF'⟩
end Go.Proofs.YthekeeagjokpeaaGreat
namespace Go.Proofs.YthekeeagjokpeaaGreat
open Go.ChangeShapes Go.WideShapes Go.ChangeAt Go.RowKit Go.Joins
set_option linter.unusedVariables false
set_option linter.unusedSimpArgs false
theorem cellsVec : Tryz.prog.cellsOf 73 = 2 := by kernel_rfl
theorem cellsInt : Tryz.prog.cellsOf 3 = 1 := by kernel_rfl
end Go.Proofs.YthekeeagjokpeaaGreat
