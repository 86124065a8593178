/- Texts of a proof. -/
import Derived.Test.YtalkkjhehndaoaaGreatB30
import Derived.Test.YtalkkjhehndaoaaGreatB40
import Derived.Test.YtalkkjhehndaoaaGreatB10
import Derived.Deep.RegionHeld3
import Derived.Deep.DeepCutAuto
import Derived.Test.YtalkkjhehndaoaaGreatRows
import Derived.WalkKit
import Derived.JoinedOf
import Derived.ProofKit
set_option maxHeartbeats 16000000
set_option maxRecDepth 20000
namespace Go.Proofs.YtalkkjhehndaoaaGreat
open Go.RowKit
set_option linter.unusedVariables false
set_option linter.unusedSimpArgs false
theorem drawGroupAwake_any (a : Option Addr) (len cap : Nat) (w : World) (hb : Bytes w a len cap) :
 Calls Tryz.prog 12 #[.slice a len cap] w fun e w' => ∃ (al : Option Addr) (n c : Nat) (U : Nat → Int), e = .returned (.slice al n c) ∧ LN n U ∧ OutL w w' 34 12 al n c U := by
 have hset := cset_map
 go_enter Tryz.func12, Tryz.ntmps12
 go_wp2_with (first
  | (have _ := hr1; go_at_call 16; refine (l11AnyBodies_k w.heap.size 0 _ (by exact RS.of hr1) (by omega)).mono ?_; rintro e w2 ⟨al, n, c, U, rfl, hL, hD⟩)
  | (go_at_call 17; refine (l1Open_rb _ _ _ _ hb).mono ?_; rintro e w1 ⟨rfl, hr1, hbel⟩))
 go_ret
 first | exact ⟨_, _, _, _, rfl, hL, RB.done hbel hD.bl.done, hD.own.base hbel.size⟩ | exact ⟨_, _, _, rfl, _, hL, RB.done hbel hD.bl.done, hD.own.base hbel.size⟩
theorem bodySleeps_k (V : Nat → Int) (w : World) (eb : bodyB V = true) (b : Bool) (hb : decide (V 11 = 8) = b) :
 Calls Tryz.prog 15 #[bodyW V] w fun e w' => e = .returned (.bool b) ∧ Below w.heap.size w w' := by
 have hset := cset_map
 subst hb
 go_enter Tryz.func15, Tryz.ntmps15
 go_wp2_with (first
  | (have _ := hC1; go_at_call 28; refine (kSleeps (Cs.hat (hC1.below (bel_a)) (k := 0) (by omega) (by omega))).mono ?_; rintro e w2 ⟨rfl, hb2⟩)
  | (go_at_call 27; refine (handleOf_k V _ true eb).mono ?_; rintro e w1 ⟨cb, S, rfl, hcb, hC1, hb1⟩))
 go_ret
 refine ⟨rfl, ?_⟩
 have k1 := ((Below.refl w.heap.size w).alloc (Nat.le_refl _) _).trans (hb1.mono (by simp))
 have k2 : Below w.heap.size w (w1.alloc (Obj.cells #[.int .i64 0, .pointer (some ⟨cb, 0, none⟩)] 60)) := k1.alloc k1.size _
 exact k2.trans (hb2.mono k2.size)
structure La (w wz : World) (al : Option Addr) (n : Nat) (U : Nat → Int) (aa aw : Option Addr) (N : Nat) (R : Nat → Bool) (ag : Option Addr) (m : Nat) (G : Nat → Int) : Prop where
 fl : Flat wz al (n * 12) U
 fa : FlatB wz aa N R
 fw : FlatB wz aw N R
 fg : Flat wz ag (m * 1) G
 bel : Below w.heap.size w wz
theorem La.on {w wz w' : World} {al aa aw ag : Option Addr} {n N m : Nat} {U G : Nat → Int} {R : Nat → Bool} (h : La w wz al n U aa aw N R ag m G) (hb : Below wz.heap.size wz w') : La w w' al n U aa aw N R ag m G := ⟨h.fl.below hb, h.fa.below (B := 0) hb, h.fw.below (B := 0) hb, h.fg.below hb, h.bel.trans (hb.mono h.bel.size)⟩
theorem La.dr {w wz : World} {al aa aw ag : Option Addr} {n N m : Nat} {U G : Nat → Int} {R : Nat → Bool} (h : La w wz al n U aa aw N R ag m G) : La w wz.drew al n U aa aw N R ag m G := h.on (Below.drew (Below.refl _ _))
theorem fnGroupAwake_walk (a : Option Addr) (len cap : Nat) (w : World) (hb : Bytes w a len cap) :
 Calls Tryz.prog 5 #[.slice a len cap] w fun e w' => e = .returned (.bool true) ∧ Below w.heap.size w w' := by
 have hset := cset_map
 go_enter Tryz.func5, Tryz.ntmps5
 go_upto_region 4 with (go_at_call 12; refine (drawGroupAwake_any _ _ _ _ hb).mono ?_; rintro e w1 ⟨al, n, c, U, rfl, hLn, hO⟩)
 · go_wp2_with fail
   go_ret
   exact ⟨rfl, Below.refl _ _⟩
 have hn13 := hLn.1
 have hn1 : n ≤ 1048576 := by omega
 obtain ⟨N, hN⟩ : ∃ N, (awO n U).length = N := ⟨_, rfl⟩
 obtain ⟨m, hm⟩ : ∃ m, (grpO n U).length = m := ⟨_, rfl⟩
 have hN12 := awO_len n U
 have hNb : N ≤ 12 := by omega
 have f1 := hO.own.flat
 have hw1 := hO.bel
 obtain ⟨R, hR⟩ : ∃ R : Nat → Bool, R = fun j => (awO n U).getD j false := ⟨_, rfl⟩
 obtain ⟨G, hGe⟩ : ∃ G, ofL (grpO n U) = G := ⟨_, rfl⟩
 have e0 : ((N : Int) != (N : Int)) = false := by simp
 go_upto_region 10 with (first
  | (have _ := hO3; go_at_call 7; refine (groupsI_q al n c U m _ ((f1.below hO2.bel).below hO3.bel) hn1 hm).mono ?_; rintro e w4 ⟨ag, cg, rfl, hO4⟩; rw [hGe] at hO4)
  | (have _ := hO2; go_at_call 14; refine (awakeS_r hR al c N _ (f1.below hO2.bel) hn1 hN).mono ?_; rintro e w3 ⟨aw, cw, rfl, hO3⟩)
  | (go_at_call 13; refine (awakeI_r hR al c N _ f1 hn1 hN).mono ?_; rintro e w2 ⟨aa, ca, rfl, hO2⟩))
 have hLL : La w w4 al n U aa aw N R ag m G := ⟨((f1.below hO2.bel).below hO3.bel).below hO4.bel, (hO2.own.flat.below (B := 0) hO3.bel).below (B := 0) hO4.bel, hO3.own.flat.below (B := 0) hO4.bel, hO4.own.flat, hw1.trans ((hO2.bel.trans ((hO3.bel.trans (hO4.bel.mono hO3.bel.size)).mono hO2.bel.size)).mono hw1.size)⟩
 clear hO2 hO3 hO4 f1 hw1 hO
 have hnb : Shut (0 < N → bodsB n U = true) := fun h0 => by
  cases eb : bodsB n U with
  | true => rfl
  | false => rw [awO_n eb] at hN; simp at hN; omega
 have hAW : Shut (bodsB n U = true → m = n ∧ ∀ k, k < N → R k = anyB (fun j => decide (G j = (k : Int)) && !slG U j) n) := fun eb => by
  have h12 := bods_n eb
  have hG := grpU_eq (U := U) h12
  rw [grpO_y eb] at hGe hm
  rw [hGe] at hG
  refine ⟨by rw [← hm]; exact grpL_len _ _ _ _, fun k hk => ?_⟩
  obtain ⟨e1, e2⟩ := awL_eq (G := G) (lab_tops U (ofL (conL (colOf U) n)) (conN n U)) hG n (Nat.le_refl _)
  rw [awO_y eb, hGe] at hR hN
  rw [hR]
  show (awL U G n).getD k false = _
  rw [e2 k (by omega)]
  exact anyB_congr n fun j hj => by rw [hG j hj]
 clear hR hGe hN hm
 go_loopw [7, 8, 9] (fun s7 _ _ wr => ∃ k : Nat, k ≤ N ∧ s7 = .int .i64 (k : Int) ∧ La w wr al n U aa aw N R ag m G) (fun s7 _ _ _ => N - (intOf s7).toNat)
 case atStart => exact ⟨0, Nat.zero_le _, rfl, hLL⟩
 case round =>
  clear hLL
  obtain ⟨k, hk, rfl, hL⟩ := hrel
  by_cases hkl : k < N
  · have hkN : (k : Int) < (N : Int) := by omega
    have eb := hnb.out (by omega)
    have hn12 := bods_n eb
    obtain ⟨hmn, hAk⟩ := hAW.out eb
    have hRk : Shut (R k = anyB (fun j => decide (G j = (k : Int)) && !slG U j) n) := hAk k hkl
    clear hAk
    subst hmn
    go_upto_region 14 with fail
    go_loopw [8, 9] (fun s8 s9 wq => ∃ (i : Nat) (sm : Bool), i ≤ m ∧ s9 = .int .i64 (i : Int) ∧ s8 = .bool sm ∧ sm = anyB (fun j => decide (G j = (k : Int)) && !slG U j) i ∧ La w wq al m U aa aw N R ag m G) (fun _ s9 _ => m - (intOf s9).toNat)
    case atStart => exact ⟨0, _, Nat.zero_le _, rfl, rfl, rfl, hL⟩
    case round =>
     clear hL
     obtain ⟨i, sm, hi, rfl, rfl, hsm, hL⟩ := hrel
     by_cases hil : i < m
     · have him : (i : Int) < (m : Int) := by omega
       have hnx : Shut (anyB (fun j => decide (G j = (k : Int)) && !slG U j) (i + 1) = (sm || (decide (G i = (k : Int)) && !slG U i))) := by show _ = _; rw [anyB, ← hsm]
       clear hsm
       cases sm with
       | true =>
        go_wp2_with fail
        go_roundw
        case rel => exact ⟨i + 1, true, by omega, by go_num, rfl, by rw [hnx.out]; rfl, hL⟩
        case measure => simp [intOf]; omega
       | false =>
        obtain ⟨b3, o3, e3, hb3l, hc3⟩ := hL.fg (by omega)
        have r0 : wr.cell? ⟨b3, o3 + i, none⟩ = some (.int .i64 (G i)) := hc3 i (by omega)
        clear hc3
        subst e3
        by_cases he : G i = (k : Int)
        · have he2 : (G i == (k : Int)) = true := beq_iff_eq.2 he
          rw [decide_eq_true he] at hnx
          clear he
          obtain ⟨b0, o0, e00, hb0l, hc0⟩ := hL.fl (by omega)
          have i0 : wr.cell? ⟨b0, o0 + i * 12, none⟩ = some (.int .i64 (U (i * 12))) := by have q := hc0 (i * 12 + 0) (by omega); simpa [Nat.add_assoc] using q
          have i1 : wr.cell? ⟨b0, o0 + i * 12 + 1, none⟩ = some (.int .i64 (U (i * 12 + 1))) := by have q := hc0 (i * 12 + 1) (by omega); simpa [Nat.add_assoc] using q
          have i2 : wr.cell? ⟨b0, o0 + i * 12 + 2, none⟩ = some (.int .i64 (U (i * 12 + 2))) := by have q := hc0 (i * 12 + 2) (by omega); simpa [Nat.add_assoc] using q
          have i3 : wr.cell? ⟨b0, o0 + i * 12 + 3, none⟩ = some (.int .i64 (U (i * 12 + 3))) := by have q := hc0 (i * 12 + 3) (by omega); simpa [Nat.add_assoc] using q
          have i4 : wr.cell? ⟨b0, o0 + i * 12 + 4, none⟩ = some (.int .i64 (U (i * 12 + 4))) := by have q := hc0 (i * 12 + 4) (by omega); simpa [Nat.add_assoc] using q
          have i5 : wr.cell? ⟨b0, o0 + i * 12 + 5, none⟩ = some (.int .i64 (U (i * 12 + 5))) := by have q := hc0 (i * 12 + 5) (by omega); simpa [Nat.add_assoc] using q
          have i6 : wr.cell? ⟨b0, o0 + i * 12 + 6, none⟩ = some (.int .i64 (U (i * 12 + 6))) := by have q := hc0 (i * 12 + 6) (by omega); simpa [Nat.add_assoc] using q
          have i7 : wr.cell? ⟨b0, o0 + i * 12 + 7, none⟩ = some (.int .i64 (U (i * 12 + 7))) := by have q := hc0 (i * 12 + 7) (by omega); simpa [Nat.add_assoc] using q
          have i8 : wr.cell? ⟨b0, o0 + i * 12 + 8, none⟩ = some (.int .i64 (U (i * 12 + 8))) := by have q := hc0 (i * 12 + 8) (by omega); simpa [Nat.add_assoc] using q
          have i9 : wr.cell? ⟨b0, o0 + i * 12 + 9, none⟩ = some (.int .i64 (U (i * 12 + 9))) := by have q := hc0 (i * 12 + 9) (by omega); simpa [Nat.add_assoc] using q
          have i10 : wr.cell? ⟨b0, o0 + i * 12 + 10, none⟩ = some (.int .i64 (U (i * 12 + 10))) := by have q := hc0 (i * 12 + 10) (by omega); simpa [Nat.add_assoc] using q
          have i11 : wr.cell? ⟨b0, o0 + i * 12 + 11, none⟩ = some (.int .i64 (U (i * 12 + 11))) := by have q := hc0 (i * 12 + 11) (by omega); simpa [Nat.add_assoc] using q
          clear hc0
          subst e00
          have hok := bods_body eb hil
          have hq := bods_q eb i hil
          obtain ⟨sl, hsl⟩ : ∃ b, slG U i = b := ⟨_, rfl⟩
          rw [hsl] at hnx hq
          go_wp2_with (go_at_call 15; refine (bodySleeps_k (fun j => U (i * 12 + j)) _ hok sl hq).mono ?_; rintro e w7 ⟨rfl, hb7⟩)
          have hL7 := hL.on hb7
          go_roundw
          case rel => exact ⟨i + 1, !sl, by omega, by go_num, rfl, by rw [hnx.out]; simp, hL7⟩
          case measure => simp [intOf]; omega
        · have he2 : (G i == (k : Int)) = false := beq_eq_false_iff_ne.2 he
          rw [decide_eq_false he] at hnx
          clear he
          go_wp2_with fail
          go_roundw
          case rel => exact ⟨i + 1, false, by omega, by go_num, rfl, by rw [hnx.out]; rfl, hL⟩
          case measure => simp [intOf]; omega
     · obtain rfl : i = m := by omega
       obtain ⟨b1, o1, e1, _, hc1⟩ := hL.fa (by omega)
       obtain ⟨b2, o2, e2, _, hc2⟩ := hL.fw (by omega)
       have r1 := hc1 k hkl
       have r2 := hc2 k hkl
       clear hc1 hc2
       subst e1 e2
       obtain rfl : R k = sm := hRk.out.trans hsm.symm
       have hev : (R k != R k) = false := by simp
       go_upto_region 17 with fail
       refine wp_region_held_drew (S := fun w' => w'.cell? ⟨b1, o1 + k, none⟩ = some (.bool (R k)) ∧ w'.cell? ⟨b2, o2 + k, none⟩ = some (.bool (R k))) (by kernel_rfl) ?_ (fun hHeld => ?_)
       · (try dsimp only)
         (first | (go_simp; done) | (go_keep; done))
       refine tq 0 hHeld ?_
       refine tq 1 hHeld ?_
       refine tq 2 hHeld ?_
       refine tq 3 hHeld ?_
       refine tq 4 hHeld ?_
       refine tq 5 hHeld ?_
       refine tq 6 hHeld ?_
       refine tq 7 hHeld ?_
       refine tq 8 hHeld ?_
       refine tq 9 hHeld ?_
       refine tq 10 hHeld ?_
       refine tq 11 hHeld ?_
       refine tq 12 hHeld ?_
       refine tq 13 hHeld ?_
       refine tq 14 hHeld ?_
       refine tq 15 hHeld ?_
       refine tq 16 hHeld ?_
       refine wpAnyH_done (by kernel_rfl) ?_ _
       go_wp2_with fail
       go_roundw
       case rel => exact ⟨k + 1, by omega, by go_num, by first | exact hL | exact hL.dr⟩
       case measure => simp [intOf]; omega
  · obtain rfl : k = N := by omega
    go_wp2_with fail
    go_ret
    exact ⟨rfl, hL.bel⟩
end Go.Proofs.YtalkkjhehndaoaaGreat
namespace Go.Proofs.YtalkkjhehndaoaaGreat
theorem head_cut {l : List (List Char)} {c : List Char} (h : (l.head? == some c) = true) : ∃ rest, l = c :: rest := by
 cases l with
 | nil => simp at h
 | cons a r => simp at h; exact ⟨r, by rw [h]⟩
theorem strip_cut (rest : List (List Char)) : stripLifts liftWords ("cut".toList :: rest) = ([], "cut".toList :: rest) := by kernel_rfl
theorem make_of {P : Program} {l : List Char} (h0 : P.initOrder.toList = l) (h1 : ((behindMainWord (wordsSigns l)).head? == some "cut".toList) = true) : P.make = some .cut := by
 obtain ⟨rest, hr⟩ := head_cut h1
 unfold Program.make
 rw [h0, hr]
 rfl
theorem headLifts_of {P : Program} {l : List Char} (h0 : P.initOrder.toList = l) (h1 : ((behindMainWord (wordsSigns l)).head? == some "cut".toList) = true) : P.headLifts = [] := by
 obtain ⟨rest, hr⟩ := head_cut h1
 unfold Program.headLifts
 rw [h0, hr, strip_cut]
 rfl
theorem liftsFinal_of {P : Program} {l : List Char} (h0 : P.initOrder.toList = l) (h1 : ((behindMainWord (wordsSigns l)).head? == some "cut".toList) = true) : P.liftsFinal = false := by
 have hh := headLifts_of h0 h1
 obtain ⟨rest, hr⟩ := head_cut h1
 unfold Program.liftsFinal
 rw [h0, hr, hh]
 rfl
theorem mayEnter_of {P : Program} {l : List Char} (h0 : P.initOrder.toList = l) (h1 : ((behindMainWord (wordsSigns l)).head? == some "cut".toList) = true) (h2 : P.laysLater = false) (h3 : P.bearsReflect = false) (h4 : P.doorFits [] = true) : P.mayEnter = true := by
 obtain ⟨rest, hr⟩ := head_cut h1
 unfold Program.mayEnter
 rw [h0, hr]
 simp only [strip_cut, h2, h3, h4]
 simp
end Go.Proofs.YtalkkjhehndaoaaGreat
namespace Go.Proofs.YtalkkjhehndaoaaGreat
set_option maxRecDepth 100000
def ordL : { l : List Char // Tryz.prog.initOrder = String.ofList l } := ⟨_, rfl⟩
theorem ordT : Tryz.prog.initOrder.toList = ordL.1 := (congrArg String.toList ordL.2).trans String.toList_ofList
theorem headE : ((behindMainWord (wordsSigns ordL.1)).head? == some "cut".toList) = true := by kernel_rfl
theorem makeT : Tryz.prog.make = some .cut := make_of ordT headE
theorem liftsFinalT : Tryz.prog.liftsFinal = false := liftsFinal_of ordT headE
theorem laysLaterT : Tryz.prog.laysLater = false := by kernel_rfl
theorem bearsReflectT : Tryz.prog.bearsReflect = false := by kernel_rfl
theorem doorFitsT : Tryz.prog.doorFits [] = true := by kernel_rfl
theorem mayEnterT : Tryz.prog.mayEnter = true := mayEnter_of ordT headE laysLaterT bearsReflectT doorFitsT
theorem ownT : ownKnob Tryz.prog.godebug = none := by kernel_rfl
theorem laidOutT : laidOutB Tryz.prog = true := by kernel_rfl
theorem mapsRowedT : mapsRowed Tryz.prog = true := by kernel_rfl
theorem stopsHeardT : Tryz.prog.stopsHeard = true := by kernel_rfl
theorem plainKeysT : Tryz.prog.plainKeys = true := by kernel_rfl
end Go.Proofs.YtalkkjhehndaoaaGreat
