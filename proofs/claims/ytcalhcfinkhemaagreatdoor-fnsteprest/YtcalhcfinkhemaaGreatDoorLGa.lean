/- Texts of a proof. -/
import Derived.Test.YtcalhcfinkhemaaGreatDoorB48
import Derived.Test.YtcalhcfinkhemaaGreatDoorB47
import Derived.Test.YtcalhcfinkhemaaGreatDoorB11
import Derived.Deep.RegionHeld3
import Derived.Deep.DeepCutAuto
set_option maxHeartbeats 16000000
set_option maxRecDepth 20000
namespace Go.Proofs.YtcalhcfinkhemaaGreatDoor
open Go.RowKit
set_option linter.unusedVariables false
set_option linter.unusedSimpArgs false
theorem bodySleeps_k (V:Nat→Int) (w:World) (eb:bodyB V=true) (b:Bool) (hb:decide (V 11=8)=b):
 Calls Tryz.prog 14 #[bodyW V] w fun e w'=>e= .returned (.bool b)∧Below w.heap.size w w':=by
 have hset:=cset_map
 subst hb
 go_enter Tryz.func14,Tryz.ntmps14
 go_wp2_with (first
  |(have _:=hC1;go_at_call 32;refine(kSleeps (Cs.hat (hC1.below (bel_a)) (k:=0) (by omega) (by omega))).mono ?_;rintro e w2 ⟨rfl,hb2⟩)
  |(go_at_call 31;refine(handleOf_k V _ true eb).mono ?_;rintro e w1 ⟨cb,S,rfl,hcb,hC1,hb1⟩))
 go_ret
 refine⟨rfl,?_⟩
 have k1:=((Below.refl w.heap.size w).alloc (Nat.le_refl _) _).trans (hb1.mono (by simp))
 have k2:Below w.heap.size w (w1.alloc (Obj.cells #[.int .i64 0,.pointer (some ⟨cb,0,none⟩)] 59)):=k1.alloc k1.size _
 exact k2.trans (hb2.mono k2.size)
structure La (w wz:World) (al:Option Addr) (n:Nat) (U:Nat→Int) (aa aw:Option Addr) (N:Nat) (R:Nat→Bool) (ag:Option Addr) (m:Nat) (G:Nat→Int):Prop where
 fl:Flat wz al (n*12) U
 fa:FlatB wz aa N R
 fw:FlatB wz aw N R
 fg:Flat wz ag (m*1) G
 bel:Below w.heap.size w wz
theorem La.on {w wz w':World} {al aa aw ag:Option Addr} {n N m:Nat} {U G:Nat→Int} {R:Nat→Bool} (h:La w wz al n U aa aw N R ag m G) (hb:Below wz.heap.size wz w'):La w w' al n U aa aw N R ag m G:=⟨h.fl.below hb,h.fa.below (B:=0) hb,h.fw.below (B:=0) hb,h.fg.below hb,h.bel.trans (hb.mono h.bel.size)⟩
theorem La.dr {w wz:World} {al aa aw ag:Option Addr} {n N m:Nat} {U G:Nat→Int} {R:Nat→Bool} (h:La w wz al n U aa aw N R ag m G):La w wz.drew al n U aa aw N R ag m G:=h.on (Below.drew (Below.refl _ _))
end Go.Proofs.YtcalhcfinkhemaaGreatDoor
