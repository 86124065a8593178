/-
  No cell of these rows narrows 'for every input' (looked for: loops, veiled, ifaces, maps, wideKeys, modest, calm, conditions, laid).
  DERIVED. THE GIVEN ROWS OF THIS SEAT. 12 by the template 'for every input the law returns true; each argument reads behind the call as it read before'; 0 by the template 'total and deterministic' (their statements: YtflgmpppnobogaaTotals.lean).
  GIVEN WITH THE SEED: the statements are not yours to turn. If you find one false, say at which input.
  Laid BY PROGRAM, IN A SANDBOX (cutbox-rows.mjs): the forced cells as the released guide's own fill.sh prints them over the translation 5bf1d54f428ed0cf… (all of the seat's roots in one cut). By AI agents, Wed Nov 11 2026. No macro, syntax, notation, axiom, sorry.
-/
import Derived.Test.YtflgmpppnobogaaChecked
import GoSem.Claim
import GoSem.ClaimJoined
import GoSem.ClaimMapViews
import Derived.JoinedTies
import Derived.KernelRfl
namespace Go.Proofs.Ytflgmpppnobogaa
/- THE CELL 'sum', in the pinned program and in every row, IS THE sha256 OF THE DUMP (.gsa) THAT YtflgmpppnobogaaProg.lean LOADS. Nothing in Lean hashes anything: it is a label: what it is worth is what the hold of that sum in a sandbox is worth. -/
noncomputable def Try.pinned : Pinned := { name := "ytflgmpppnobogaa", sum := "5bf1d54f428ed0cf52dc2f7921f58cb3a6e77d976c37aff26003d17d5d4f5513", checked := Try.checked }
namespace Rows
def none {H : Type} : Left H := { results := [], args := [] }

/-- 'laws.FnBodySpeed': WHATEVER THE INPUT: true; the input reads as it did. -/
def fnBodySpeedSpec : ChangeSpec := { name := "fnBodySpeed", fn := fun _ => fun
  | [d] => { results := [.lit (.bool true)], args := [d] }
  | _ => none }
def fnBodySpeedRow : OpenClaim := { program := "ytflgmpppnobogaa", sum := "5bf1d54f428ed0cf52dc2f7921f58cb3a6e77d976c37aff26003d17d5d4f5513", func := "loop.example/parquetry/laws.FnBodySpeed", spec := "fnBodySpeed", apart := false }
def FnBodySpeedSaid : Prop := fnBodySpeedRow.holds Try.pinned (OpenSpec.ofChange fnBodySpeedSpec)

/-- ITS FALSE NEIGHBOUR: 'it returns false'. Refute it at one input. -/
def fnBodySpeedWrong : ChangeSpec := { name := "fnBodySpeed", fn := fun _ => fun
  | [d] => { results := [.lit (.bool false)], args := [d] }
  | _ => none }
def FnBodySpeedWrongFalsely : Prop := fnBodySpeedRow.holds Try.pinned (OpenSpec.ofChange fnBodySpeedWrong)

/-- 'laws.FnBodyPush': WHATEVER THE INPUT: true; the input reads as it did. -/
def fnBodyPushSpec : ChangeSpec := { name := "fnBodyPush", fn := fun _ => fun
  | [d] => { results := [.lit (.bool true)], args := [d] }
  | _ => none }
def fnBodyPushRow : OpenClaim := { program := "ytflgmpppnobogaa", sum := "5bf1d54f428ed0cf52dc2f7921f58cb3a6e77d976c37aff26003d17d5d4f5513", func := "loop.example/parquetry/laws.FnBodyPush", spec := "fnBodyPush", apart := false }
def FnBodyPushSaid : Prop := fnBodyPushRow.holds Try.pinned (OpenSpec.ofChange fnBodyPushSpec)

/-- ITS FALSE NEIGHBOUR: 'it returns false'. Refute it at one input. -/
def fnBodyPushWrong : ChangeSpec := { name := "fnBodyPush", fn := fun _ => fun
  | [d] => { results := [.lit (.bool false)], args := [d] }
  | _ => none }
def FnBodyPushWrongFalsely : Prop := fnBodyPushRow.holds Try.pinned (OpenSpec.ofChange fnBodyPushWrong)

/-- 'laws.FnBodyMove': WHATEVER THE INPUT: true; the input reads as it did. -/
def fnBodyMoveSpec : ChangeSpec := { name := "fnBodyMove", fn := fun _ => fun
  | [d] => { results := [.lit (.bool true)], args := [d] }
  | _ => none }
def fnBodyMoveRow : OpenClaim := { program := "ytflgmpppnobogaa", sum := "5bf1d54f428ed0cf52dc2f7921f58cb3a6e77d976c37aff26003d17d5d4f5513", func := "loop.example/parquetry/laws.FnBodyMove", spec := "fnBodyMove", apart := false }
def FnBodyMoveSaid : Prop := fnBodyMoveRow.holds Try.pinned (OpenSpec.ofChange fnBodyMoveSpec)

/-- ITS FALSE NEIGHBOUR: 'it returns false'. Refute it at one input. -/
def fnBodyMoveWrong : ChangeSpec := { name := "fnBodyMove", fn := fun _ => fun
  | [d] => { results := [.lit (.bool false)], args := [d] }
  | _ => none }
def FnBodyMoveWrongFalsely : Prop := fnBodyMoveRow.holds Try.pinned (OpenSpec.ofChange fnBodyMoveWrong)

/-- 'laws.FnClosing': WHATEVER THE INPUT: true; the input reads as it did. -/
def fnClosingSpec : ChangeSpec := { name := "fnClosing", fn := fun _ => fun
  | [d] => { results := [.lit (.bool true)], args := [d] }
  | _ => none }
def fnClosingRow : OpenClaim := { program := "ytflgmpppnobogaa", sum := "5bf1d54f428ed0cf52dc2f7921f58cb3a6e77d976c37aff26003d17d5d4f5513", func := "loop.example/parquetry/laws.FnClosing", spec := "fnClosing", apart := false }
def FnClosingSaid : Prop := fnClosingRow.holds Try.pinned (OpenSpec.ofChange fnClosingSpec)

/-- ITS FALSE NEIGHBOUR: 'it returns false'. Refute it at one input. -/
def fnClosingWrong : ChangeSpec := { name := "fnClosing", fn := fun _ => fun
  | [d] => { results := [.lit (.bool false)], args := [d] }
  | _ => none }
def FnClosingWrongFalsely : Prop := fnClosingRow.holds Try.pinned (OpenSpec.ofChange fnClosingWrong)

/-- 'laws.FnPushOf': WHATEVER THE INPUT: true; the input reads as it did. -/
def fnPushOfSpec : ChangeSpec := { name := "fnPushOf", fn := fun _ => fun
  | [d] => { results := [.lit (.bool true)], args := [d] }
  | _ => none }
def fnPushOfRow : OpenClaim := { program := "ytflgmpppnobogaa", sum := "5bf1d54f428ed0cf52dc2f7921f58cb3a6e77d976c37aff26003d17d5d4f5513", func := "loop.example/parquetry/laws.FnPushOf", spec := "fnPushOf", apart := false }
def FnPushOfSaid : Prop := fnPushOfRow.holds Try.pinned (OpenSpec.ofChange fnPushOfSpec)

/-- ITS FALSE NEIGHBOUR: 'it returns false'. Refute it at one input. -/
def fnPushOfWrong : ChangeSpec := { name := "fnPushOf", fn := fun _ => fun
  | [d] => { results := [.lit (.bool false)], args := [d] }
  | _ => none }
def FnPushOfWrongFalsely : Prop := fnPushOfRow.holds Try.pinned (OpenSpec.ofChange fnPushOfWrong)

/-- 'laws.FnExactBodyOk': WHATEVER THE INPUT: true; the input reads as it did. -/
def fnExactBodyOkSpec : ChangeSpec := { name := "fnExactBodyOk", fn := fun _ => fun
  | [d] => { results := [.lit (.bool true)], args := [d] }
  | _ => none }
def fnExactBodyOkRow : OpenClaim := { program := "ytflgmpppnobogaa", sum := "5bf1d54f428ed0cf52dc2f7921f58cb3a6e77d976c37aff26003d17d5d4f5513", func := "loop.example/parquetry/laws.FnExactBodyOk", spec := "fnExactBodyOk", apart := false }
def FnExactBodyOkSaid : Prop := fnExactBodyOkRow.holds Try.pinned (OpenSpec.ofChange fnExactBodyOkSpec)

/-- ITS FALSE NEIGHBOUR: 'it returns false'. Refute it at one input. -/
def fnExactBodyOkWrong : ChangeSpec := { name := "fnExactBodyOk", fn := fun _ => fun
  | [d] => { results := [.lit (.bool false)], args := [d] }
  | _ => none }
def FnExactBodyOkWrongFalsely : Prop := fnExactBodyOkRow.holds Try.pinned (OpenSpec.ofChange fnExactBodyOkWrong)

/-- 'laws.FnExactBodySpeed': WHATEVER THE INPUT: true; the input reads as it did. -/
def fnExactBodySpeedSpec : ChangeSpec := { name := "fnExactBodySpeed", fn := fun _ => fun
  | [d] => { results := [.lit (.bool true)], args := [d] }
  | _ => none }
def fnExactBodySpeedRow : OpenClaim := { program := "ytflgmpppnobogaa", sum := "5bf1d54f428ed0cf52dc2f7921f58cb3a6e77d976c37aff26003d17d5d4f5513", func := "loop.example/parquetry/laws.FnExactBodySpeed", spec := "fnExactBodySpeed", apart := false }
def FnExactBodySpeedSaid : Prop := fnExactBodySpeedRow.holds Try.pinned (OpenSpec.ofChange fnExactBodySpeedSpec)

/-- ITS FALSE NEIGHBOUR: 'it returns false'. Refute it at one input. -/
def fnExactBodySpeedWrong : ChangeSpec := { name := "fnExactBodySpeed", fn := fun _ => fun
  | [d] => { results := [.lit (.bool false)], args := [d] }
  | _ => none }
def FnExactBodySpeedWrongFalsely : Prop := fnExactBodySpeedRow.holds Try.pinned (OpenSpec.ofChange fnExactBodySpeedWrong)

/-- 'laws.FnExactBodySleeps': WHATEVER THE INPUT: true; the input reads as it did. -/
def fnExactBodySleepsSpec : ChangeSpec := { name := "fnExactBodySleeps", fn := fun _ => fun
  | [d] => { results := [.lit (.bool true)], args := [d] }
  | _ => none }
def fnExactBodySleepsRow : OpenClaim := { program := "ytflgmpppnobogaa", sum := "5bf1d54f428ed0cf52dc2f7921f58cb3a6e77d976c37aff26003d17d5d4f5513", func := "loop.example/parquetry/laws.FnExactBodySleeps", spec := "fnExactBodySleeps", apart := false }
def FnExactBodySleepsSaid : Prop := fnExactBodySleepsRow.holds Try.pinned (OpenSpec.ofChange fnExactBodySleepsSpec)

/-- ITS FALSE NEIGHBOUR: 'it returns false'. Refute it at one input. -/
def fnExactBodySleepsWrong : ChangeSpec := { name := "fnExactBodySleeps", fn := fun _ => fun
  | [d] => { results := [.lit (.bool false)], args := [d] }
  | _ => none }
def FnExactBodySleepsWrongFalsely : Prop := fnExactBodySleepsRow.holds Try.pinned (OpenSpec.ofChange fnExactBodySleepsWrong)

/-- 'laws.FnExactBodyPush': WHATEVER THE INPUT: true; the input reads as it did. -/
def fnExactBodyPushSpec : ChangeSpec := { name := "fnExactBodyPush", fn := fun _ => fun
  | [d1, d2] => { results := [.lit (.bool true)], args := [d1, d2] }
  | _ => none }
def fnExactBodyPushRow : OpenClaim := { program := "ytflgmpppnobogaa", sum := "5bf1d54f428ed0cf52dc2f7921f58cb3a6e77d976c37aff26003d17d5d4f5513", func := "loop.example/parquetry/laws.FnExactBodyPush", spec := "fnExactBodyPush", apart := false }
def FnExactBodyPushSaid : Prop := fnExactBodyPushRow.holds Try.pinned (OpenSpec.ofChange fnExactBodyPushSpec)

/-- ITS FALSE NEIGHBOUR: 'it returns false'. Refute it at one input. -/
def fnExactBodyPushWrong : ChangeSpec := { name := "fnExactBodyPush", fn := fun _ => fun
  | [d1, d2] => { results := [.lit (.bool false)], args := [d1, d2] }
  | _ => none }
def FnExactBodyPushWrongFalsely : Prop := fnExactBodyPushRow.holds Try.pinned (OpenSpec.ofChange fnExactBodyPushWrong)

/-- 'laws.FnExactBodyMove': WHATEVER THE INPUT: true; the input reads as it did. -/
def fnExactBodyMoveSpec : ChangeSpec := { name := "fnExactBodyMove", fn := fun _ => fun
  | [d] => { results := [.lit (.bool true)], args := [d] }
  | _ => none }
def fnExactBodyMoveRow : OpenClaim := { program := "ytflgmpppnobogaa", sum := "5bf1d54f428ed0cf52dc2f7921f58cb3a6e77d976c37aff26003d17d5d4f5513", func := "loop.example/parquetry/laws.FnExactBodyMove", spec := "fnExactBodyMove", apart := false }
def FnExactBodyMoveSaid : Prop := fnExactBodyMoveRow.holds Try.pinned (OpenSpec.ofChange fnExactBodyMoveSpec)

/-- ITS FALSE NEIGHBOUR: 'it returns false'. Refute it at one input. -/
def fnExactBodyMoveWrong : ChangeSpec := { name := "fnExactBodyMove", fn := fun _ => fun
  | [d] => { results := [.lit (.bool false)], args := [d] }
  | _ => none }
def FnExactBodyMoveWrongFalsely : Prop := fnExactBodyMoveRow.holds Try.pinned (OpenSpec.ofChange fnExactBodyMoveWrong)

/-- 'laws.FnExactClosing': WHATEVER THE INPUT: true; the input reads as it did. -/
def fnExactClosingSpec : ChangeSpec := { name := "fnExactClosing", fn := fun _ => fun
  | [d1, d2, d3] => { results := [.lit (.bool true)], args := [d1, d2, d3] }
  | _ => none }
def fnExactClosingRow : OpenClaim := { program := "ytflgmpppnobogaa", sum := "5bf1d54f428ed0cf52dc2f7921f58cb3a6e77d976c37aff26003d17d5d4f5513", func := "loop.example/parquetry/laws.FnExactClosing", spec := "fnExactClosing", apart := false }
def FnExactClosingSaid : Prop := fnExactClosingRow.holds Try.pinned (OpenSpec.ofChange fnExactClosingSpec)

/-- ITS FALSE NEIGHBOUR: 'it returns false'. Refute it at one input. -/
def fnExactClosingWrong : ChangeSpec := { name := "fnExactClosing", fn := fun _ => fun
  | [d1, d2, d3] => { results := [.lit (.bool false)], args := [d1, d2, d3] }
  | _ => none }
def FnExactClosingWrongFalsely : Prop := fnExactClosingRow.holds Try.pinned (OpenSpec.ofChange fnExactClosingWrong)

/-- 'laws.FnExactPushOf': WHATEVER THE INPUT: true; the input reads as it did. -/
def fnExactPushOfSpec : ChangeSpec := { name := "fnExactPushOf", fn := fun _ => fun
  | [d1, d2, d3, d4] => { results := [.lit (.bool true)], args := [d1, d2, d3, d4] }
  | _ => none }
def fnExactPushOfRow : OpenClaim := { program := "ytflgmpppnobogaa", sum := "5bf1d54f428ed0cf52dc2f7921f58cb3a6e77d976c37aff26003d17d5d4f5513", func := "loop.example/parquetry/laws.FnExactPushOf", spec := "fnExactPushOf", apart := false }
def FnExactPushOfSaid : Prop := fnExactPushOfRow.holds Try.pinned (OpenSpec.ofChange fnExactPushOfSpec)

/-- ITS FALSE NEIGHBOUR: 'it returns false'. Refute it at one input. -/
def fnExactPushOfWrong : ChangeSpec := { name := "fnExactPushOf", fn := fun _ => fun
  | [d1, d2, d3, d4] => { results := [.lit (.bool false)], args := [d1, d2, d3, d4] }
  | _ => none }
def FnExactPushOfWrongFalsely : Prop := fnExactPushOfRow.holds Try.pinned (OpenSpec.ofChange fnExactPushOfWrong)

/- THE SECOND FORM. 'bulk': how many values and letters a reading holds, each counted each time it is reached (what is shared counts as often as it is met; a slice's spare places count too). A statement '..UptoSaid' is the law's where the arguments, and the package variables that the reading takes, are together of bulk at most 1048576: NARROWER than '..Said'. Prove '..Said' where nothing that the law and all that it calls make is longer than what came in: it says more and counts as full. Else prove '..UptoSaid'. A law counts once. -/
mutual
def uptoBulk {H : Type} : DataW H → Nat
  | .lit (.string bytes) => bytes.length + 1
  | .lit _ => 1
  | .nil => 1
  | .ptr d => uptoBulk d + 1
  | .slice elems spare => uptoBulkAll elems + uptoBulkAll spare + 1
  | .agg parts => uptoBulkAll parts + 1
  | .iface _ d => uptoBulk d + 1
  | .map entries => uptoBulkEntries entries + 1
  | .held _ => 1
def uptoBulkAll {H : Type} : List (DataW H) → Nat
  | [] => 0
  | d :: r => uptoBulk d + uptoBulkAll r
def uptoBulkEntries {H : Type} : List (Lit × DataW H) → Nat
  | [] => 0
  | x :: r => uptoBulkEntry x + uptoBulkEntries r
def uptoBulkEntry {H : Type} : Lit × DataW H → Nat
  | (.string bytes, d) => bytes.length + uptoBulk d + 1
  | (_, d) => uptoBulk d + 1
 end
def uptoSmall : (H : Type) → List (DataW H) → Bool := fun _ ds => decide (uptoBulkAll ds ≤ 1048576)
def OpenSpec.upto (s : _root_.Go.ChangeSpec) : _root_.Go.OpenSpec := { _root_.Go.OpenSpec.ofChange s with cond := some uptoSmall }

/-- 'laws.FnBodySpeed', WHERE WHAT IT READS IS OF BULK AT MOST 1048576: true; the input reads as it did. -/
def fnBodySpeedUptoRow : OpenClaim := { program := "ytflgmpppnobogaa", sum := "5bf1d54f428ed0cf52dc2f7921f58cb3a6e77d976c37aff26003d17d5d4f5513", func := "loop.example/parquetry/laws.FnBodySpeed", spec := "fnBodySpeed", apart := false, narrowed := true }
def FnBodySpeedUptoSaid : Prop := fnBodySpeedUptoRow.holds Try.pinned (OpenSpec.upto fnBodySpeedSpec)

/-- 'laws.FnBodyPush', WHERE WHAT IT READS IS OF BULK AT MOST 1048576: true; the input reads as it did. -/
def fnBodyPushUptoRow : OpenClaim := { program := "ytflgmpppnobogaa", sum := "5bf1d54f428ed0cf52dc2f7921f58cb3a6e77d976c37aff26003d17d5d4f5513", func := "loop.example/parquetry/laws.FnBodyPush", spec := "fnBodyPush", apart := false, narrowed := true }
def FnBodyPushUptoSaid : Prop := fnBodyPushUptoRow.holds Try.pinned (OpenSpec.upto fnBodyPushSpec)

/-- 'laws.FnBodyMove', WHERE WHAT IT READS IS OF BULK AT MOST 1048576: true; the input reads as it did. -/
def fnBodyMoveUptoRow : OpenClaim := { program := "ytflgmpppnobogaa", sum := "5bf1d54f428ed0cf52dc2f7921f58cb3a6e77d976c37aff26003d17d5d4f5513", func := "loop.example/parquetry/laws.FnBodyMove", spec := "fnBodyMove", apart := false, narrowed := true }
def FnBodyMoveUptoSaid : Prop := fnBodyMoveUptoRow.holds Try.pinned (OpenSpec.upto fnBodyMoveSpec)

/-- 'laws.FnClosing', WHERE WHAT IT READS IS OF BULK AT MOST 1048576: true; the input reads as it did. -/
def fnClosingUptoRow : OpenClaim := { program := "ytflgmpppnobogaa", sum := "5bf1d54f428ed0cf52dc2f7921f58cb3a6e77d976c37aff26003d17d5d4f5513", func := "loop.example/parquetry/laws.FnClosing", spec := "fnClosing", apart := false, narrowed := true }
def FnClosingUptoSaid : Prop := fnClosingUptoRow.holds Try.pinned (OpenSpec.upto fnClosingSpec)

/-- 'laws.FnPushOf', WHERE WHAT IT READS IS OF BULK AT MOST 1048576: true; the input reads as it did. -/
def fnPushOfUptoRow : OpenClaim := { program := "ytflgmpppnobogaa", sum := "5bf1d54f428ed0cf52dc2f7921f58cb3a6e77d976c37aff26003d17d5d4f5513", func := "loop.example/parquetry/laws.FnPushOf", spec := "fnPushOf", apart := false, narrowed := true }
def FnPushOfUptoSaid : Prop := fnPushOfUptoRow.holds Try.pinned (OpenSpec.upto fnPushOfSpec)

/-- 'laws.FnExactBodyOk', WHERE WHAT IT READS IS OF BULK AT MOST 1048576: true; the input reads as it did. -/
def fnExactBodyOkUptoRow : OpenClaim := { program := "ytflgmpppnobogaa", sum := "5bf1d54f428ed0cf52dc2f7921f58cb3a6e77d976c37aff26003d17d5d4f5513", func := "loop.example/parquetry/laws.FnExactBodyOk", spec := "fnExactBodyOk", apart := false, narrowed := true }
def FnExactBodyOkUptoSaid : Prop := fnExactBodyOkUptoRow.holds Try.pinned (OpenSpec.upto fnExactBodyOkSpec)

/-- 'laws.FnExactBodySpeed', WHERE WHAT IT READS IS OF BULK AT MOST 1048576: true; the input reads as it did. -/
def fnExactBodySpeedUptoRow : OpenClaim := { program := "ytflgmpppnobogaa", sum := "5bf1d54f428ed0cf52dc2f7921f58cb3a6e77d976c37aff26003d17d5d4f5513", func := "loop.example/parquetry/laws.FnExactBodySpeed", spec := "fnExactBodySpeed", apart := false, narrowed := true }
def FnExactBodySpeedUptoSaid : Prop := fnExactBodySpeedUptoRow.holds Try.pinned (OpenSpec.upto fnExactBodySpeedSpec)

/-- 'laws.FnExactBodySleeps', WHERE WHAT IT READS IS OF BULK AT MOST 1048576: true; the input reads as it did. -/
def fnExactBodySleepsUptoRow : OpenClaim := { program := "ytflgmpppnobogaa", sum := "5bf1d54f428ed0cf52dc2f7921f58cb3a6e77d976c37aff26003d17d5d4f5513", func := "loop.example/parquetry/laws.FnExactBodySleeps", spec := "fnExactBodySleeps", apart := false, narrowed := true }
def FnExactBodySleepsUptoSaid : Prop := fnExactBodySleepsUptoRow.holds Try.pinned (OpenSpec.upto fnExactBodySleepsSpec)

/-- 'laws.FnExactBodyPush', WHERE WHAT IT READS IS OF BULK AT MOST 1048576: true; the input reads as it did. -/
def fnExactBodyPushUptoRow : OpenClaim := { program := "ytflgmpppnobogaa", sum := "5bf1d54f428ed0cf52dc2f7921f58cb3a6e77d976c37aff26003d17d5d4f5513", func := "loop.example/parquetry/laws.FnExactBodyPush", spec := "fnExactBodyPush", apart := false, narrowed := true }
def FnExactBodyPushUptoSaid : Prop := fnExactBodyPushUptoRow.holds Try.pinned (OpenSpec.upto fnExactBodyPushSpec)

/-- 'laws.FnExactBodyMove', WHERE WHAT IT READS IS OF BULK AT MOST 1048576: true; the input reads as it did. -/
def fnExactBodyMoveUptoRow : OpenClaim := { program := "ytflgmpppnobogaa", sum := "5bf1d54f428ed0cf52dc2f7921f58cb3a6e77d976c37aff26003d17d5d4f5513", func := "loop.example/parquetry/laws.FnExactBodyMove", spec := "fnExactBodyMove", apart := false, narrowed := true }
def FnExactBodyMoveUptoSaid : Prop := fnExactBodyMoveUptoRow.holds Try.pinned (OpenSpec.upto fnExactBodyMoveSpec)

/-- 'laws.FnExactClosing', WHERE WHAT IT READS IS OF BULK AT MOST 1048576: true; the input reads as it did. -/
def fnExactClosingUptoRow : OpenClaim := { program := "ytflgmpppnobogaa", sum := "5bf1d54f428ed0cf52dc2f7921f58cb3a6e77d976c37aff26003d17d5d4f5513", func := "loop.example/parquetry/laws.FnExactClosing", spec := "fnExactClosing", apart := false, narrowed := true }
def FnExactClosingUptoSaid : Prop := fnExactClosingUptoRow.holds Try.pinned (OpenSpec.upto fnExactClosingSpec)

/-- 'laws.FnExactPushOf', WHERE WHAT IT READS IS OF BULK AT MOST 1048576: true; the input reads as it did. -/
def fnExactPushOfUptoRow : OpenClaim := { program := "ytflgmpppnobogaa", sum := "5bf1d54f428ed0cf52dc2f7921f58cb3a6e77d976c37aff26003d17d5d4f5513", func := "loop.example/parquetry/laws.FnExactPushOf", spec := "fnExactPushOf", apart := false, narrowed := true }
def FnExactPushOfUptoSaid : Prop := fnExactPushOfUptoRow.holds Try.pinned (OpenSpec.upto fnExactPushOfSpec)

end Rows
end Go.Proofs.Ytflgmpppnobogaa
