/-
  No cell of these rows narrows 'for every input' (looked for: loops, veiled, ifaces, maps, wideKeys, modest, calm, conditions, laid).
  DERIVED. THE GIVEN ROWS OF THIS SEAT. 22 by the template 'for every input the law returns true; each argument reads behind the call as it read before'; 0 by the template 'total and deterministic' (their statements: YtcmnmeghlebngaaTotals.lean).
  GIVEN WITH THE SEED: the statements are not yours to turn. If you find one false, say at which input.
  Laid BY PROGRAM, IN A SANDBOX (cutbox-rows.mjs): the forced cells as the released guide's own fill.sh prints them over the translation 1a887ac2447e1f4d… (all of the seat's roots in one cut). By AI agents, Wed Nov 11 2026. No macro, syntax, notation, axiom, sorry.
-/
import Derived.Test.YtcmnmeghlebngaaChecked
import GoSem.Claim
import GoSem.ClaimJoined
import GoSem.ClaimMapViews
import Derived.JoinedTies
import Derived.KernelRfl
namespace Go.Proofs.Ytcmnmeghlebngaa
/- THE CELL 'sum', in the pinned program and in every row, IS THE sha256 OF THE DUMP (.gsa) THAT YtcmnmeghlebngaaProg.lean LOADS. Nothing in Lean hashes anything: it is a label: what it is worth is what the hold of that sum in a sandbox is worth. -/
noncomputable def Try.pinned : Pinned := { name := "ytcmnmeghlebngaa", sum := "1a887ac2447e1f4ddc13aca0c414abec93528671ddba77a439eec2613b0495f8", checked := Try.checked }
namespace Rows
def none {H : Type} : Left H := { results := [], args := [] }

/-- 'laws.FnBroadPut': WHATEVER THE INPUT: true; the input reads as it did. -/
def fnBroadPutSpec : ChangeSpec := { name := "fnBroadPut", fn := fun _ => fun
  | [d] => { results := [.lit (.bool true)], args := [d] }
  | _ => none }
def fnBroadPutRow : OpenClaim := { program := "ytcmnmeghlebngaa", sum := "1a887ac2447e1f4ddc13aca0c414abec93528671ddba77a439eec2613b0495f8", func := "loop.example/parquetry/laws.FnBroadPut", spec := "fnBroadPut", unfollowed := true, recurses := true, apart := false }
def FnBroadPutSaid : Prop := fnBroadPutRow.holds Try.pinned (OpenSpec.ofChange fnBroadPutSpec)

/-- ITS FALSE NEIGHBOUR: 'it returns false'. Refute it at one input. -/
def fnBroadPutWrong : ChangeSpec := { name := "fnBroadPut", fn := fun _ => fun
  | [d] => { results := [.lit (.bool false)], args := [d] }
  | _ => none }
def FnBroadPutWrongFalsely : Prop := fnBroadPutRow.holds Try.pinned (OpenSpec.ofChange fnBroadPutWrong)

/-- 'laws.FnBroadGone': WHATEVER THE INPUT: true; the input reads as it did. -/
def fnBroadGoneSpec : ChangeSpec := { name := "fnBroadGone", fn := fun _ => fun
  | [d] => { results := [.lit (.bool true)], args := [d] }
  | _ => none }
def fnBroadGoneRow : OpenClaim := { program := "ytcmnmeghlebngaa", sum := "1a887ac2447e1f4ddc13aca0c414abec93528671ddba77a439eec2613b0495f8", func := "loop.example/parquetry/laws.FnBroadGone", spec := "fnBroadGone", unfollowed := true, recurses := true, apart := false }
def FnBroadGoneSaid : Prop := fnBroadGoneRow.holds Try.pinned (OpenSpec.ofChange fnBroadGoneSpec)

/-- ITS FALSE NEIGHBOUR: 'it returns false'. Refute it at one input. -/
def fnBroadGoneWrong : ChangeSpec := { name := "fnBroadGone", fn := fun _ => fun
  | [d] => { results := [.lit (.bool false)], args := [d] }
  | _ => none }
def FnBroadGoneWrongFalsely : Prop := fnBroadGoneRow.holds Try.pinned (OpenSpec.ofChange fnBroadGoneWrong)

/-- 'laws.FnBroadPairs': WHATEVER THE INPUT: true; the input reads as it did. -/
def fnBroadPairsSpec : ChangeSpec := { name := "fnBroadPairs", fn := fun _ => fun
  | [d] => { results := [.lit (.bool true)], args := [d] }
  | _ => none }
def fnBroadPairsRow : OpenClaim := { program := "ytcmnmeghlebngaa", sum := "1a887ac2447e1f4ddc13aca0c414abec93528671ddba77a439eec2613b0495f8", func := "loop.example/parquetry/laws.FnBroadPairs", spec := "fnBroadPairs", unfollowed := true, recurses := true, apart := false }
def FnBroadPairsSaid : Prop := fnBroadPairsRow.holds Try.pinned (OpenSpec.ofChange fnBroadPairsSpec)

/-- ITS FALSE NEIGHBOUR: 'it returns false'. Refute it at one input. -/
def fnBroadPairsWrong : ChangeSpec := { name := "fnBroadPairs", fn := fun _ => fun
  | [d] => { results := [.lit (.bool false)], args := [d] }
  | _ => none }
def FnBroadPairsWrongFalsely : Prop := fnBroadPairsRow.holds Try.pinned (OpenSpec.ofChange fnBroadPairsWrong)

/-- 'laws.FnBroadAsk': WHATEVER THE INPUT: true; the input reads as it did. -/
def fnBroadAskSpec : ChangeSpec := { name := "fnBroadAsk", fn := fun _ => fun
  | [d1, d2] => { results := [.lit (.bool true)], args := [d1, d2] }
  | _ => none }
def fnBroadAskRow : OpenClaim := { program := "ytcmnmeghlebngaa", sum := "1a887ac2447e1f4ddc13aca0c414abec93528671ddba77a439eec2613b0495f8", func := "loop.example/parquetry/laws.FnBroadAsk", spec := "fnBroadAsk", unfollowed := true, recurses := true, apart := false }
def FnBroadAskSaid : Prop := fnBroadAskRow.holds Try.pinned (OpenSpec.ofChange fnBroadAskSpec)

/-- ITS FALSE NEIGHBOUR: 'it returns false'. Refute it at one input. -/
def fnBroadAskWrong : ChangeSpec := { name := "fnBroadAsk", fn := fun _ => fun
  | [d1, d2] => { results := [.lit (.bool false)], args := [d1, d2] }
  | _ => none }
def FnBroadAskWrongFalsely : Prop := fnBroadAskRow.holds Try.pinned (OpenSpec.ofChange fnBroadAskWrong)

/-- 'laws.FnBroadNew': WHATEVER THE INPUT: true; the input reads as it did. -/
def fnBroadNewSpec : ChangeSpec := { name := "fnBroadNew", fn := fun _ => fun
  | [d] => { results := [.lit (.bool true)], args := [d] }
  | _ => none }
def fnBroadNewRow : OpenClaim := { program := "ytcmnmeghlebngaa", sum := "1a887ac2447e1f4ddc13aca0c414abec93528671ddba77a439eec2613b0495f8", func := "loop.example/parquetry/laws.FnBroadNew", spec := "fnBroadNew", unfollowed := true, recurses := true, apart := false }
def FnBroadNewSaid : Prop := fnBroadNewRow.holds Try.pinned (OpenSpec.ofChange fnBroadNewSpec)

/-- ITS FALSE NEIGHBOUR: 'it returns false'. Refute it at one input. -/
def fnBroadNewWrong : ChangeSpec := { name := "fnBroadNew", fn := fun _ => fun
  | [d] => { results := [.lit (.bool false)], args := [d] }
  | _ => none }
def FnBroadNewWrongFalsely : Prop := fnBroadNewRow.holds Try.pinned (OpenSpec.ofChange fnBroadNewWrong)

/-- 'laws.FnBroadOrder': WHATEVER THE INPUT: true; the input reads as it did. -/
def fnBroadOrderSpec : ChangeSpec := { name := "fnBroadOrder", fn := fun _ => fun
  | [d] => { results := [.lit (.bool true)], args := [d] }
  | _ => none }
def fnBroadOrderRow : OpenClaim := { program := "ytcmnmeghlebngaa", sum := "1a887ac2447e1f4ddc13aca0c414abec93528671ddba77a439eec2613b0495f8", func := "loop.example/parquetry/laws.FnBroadOrder", spec := "fnBroadOrder", unfollowed := true, recurses := true, apart := false }
def FnBroadOrderSaid : Prop := fnBroadOrderRow.holds Try.pinned (OpenSpec.ofChange fnBroadOrderSpec)

/-- ITS FALSE NEIGHBOUR: 'it returns false'. Refute it at one input. -/
def fnBroadOrderWrong : ChangeSpec := { name := "fnBroadOrder", fn := fun _ => fun
  | [d] => { results := [.lit (.bool false)], args := [d] }
  | _ => none }
def FnBroadOrderWrongFalsely : Prop := fnBroadOrderRow.holds Try.pinned (OpenSpec.ofChange fnBroadOrderWrong)

/-- 'laws.FnTouch': WHATEVER THE INPUT: true; the input reads as it did. -/
def fnTouchSpec : ChangeSpec := { name := "fnTouch", fn := fun _ => fun
  | [d] => { results := [.lit (.bool true)], args := [d] }
  | _ => none }
def fnTouchRow : OpenClaim := { program := "ytcmnmeghlebngaa", sum := "1a887ac2447e1f4ddc13aca0c414abec93528671ddba77a439eec2613b0495f8", func := "loop.example/parquetry/laws.FnTouch", spec := "fnTouch", unfollowed := true, recurses := true, apart := false }
def FnTouchSaid : Prop := fnTouchRow.holds Try.pinned (OpenSpec.ofChange fnTouchSpec)

/-- ITS FALSE NEIGHBOUR: 'it returns false'. Refute it at one input. -/
def fnTouchWrong : ChangeSpec := { name := "fnTouch", fn := fun _ => fun
  | [d] => { results := [.lit (.bool false)], args := [d] }
  | _ => none }
def FnTouchWrongFalsely : Prop := fnTouchRow.holds Try.pinned (OpenSpec.ofChange fnTouchWrong)

/-- 'laws.FnTouchPoint': WHATEVER THE INPUT: true; the input reads as it did. -/
def fnTouchPointSpec : ChangeSpec := { name := "fnTouchPoint", fn := fun _ => fun
  | [d] => { results := [.lit (.bool true)], args := [d] }
  | _ => none }
def fnTouchPointRow : OpenClaim := { program := "ytcmnmeghlebngaa", sum := "1a887ac2447e1f4ddc13aca0c414abec93528671ddba77a439eec2613b0495f8", func := "loop.example/parquetry/laws.FnTouchPoint", spec := "fnTouchPoint", unfollowed := true, recurses := true, apart := false }
def FnTouchPointSaid : Prop := fnTouchPointRow.holds Try.pinned (OpenSpec.ofChange fnTouchPointSpec)

/-- ITS FALSE NEIGHBOUR: 'it returns false'. Refute it at one input. -/
def fnTouchPointWrong : ChangeSpec := { name := "fnTouchPoint", fn := fun _ => fun
  | [d] => { results := [.lit (.bool false)], args := [d] }
  | _ => none }
def FnTouchPointWrongFalsely : Prop := fnTouchPointRow.holds Try.pinned (OpenSpec.ofChange fnTouchPointWrong)

/-- 'laws.FnTouchOut': WHATEVER THE INPUT: true; the input reads as it did. -/
def fnTouchOutSpec : ChangeSpec := { name := "fnTouchOut", fn := fun _ => fun
  | [d] => { results := [.lit (.bool true)], args := [d] }
  | _ => none }
def fnTouchOutRow : OpenClaim := { program := "ytcmnmeghlebngaa", sum := "1a887ac2447e1f4ddc13aca0c414abec93528671ddba77a439eec2613b0495f8", func := "loop.example/parquetry/laws.FnTouchOut", spec := "fnTouchOut", unfollowed := true, recurses := true, apart := false }
def FnTouchOutSaid : Prop := fnTouchOutRow.holds Try.pinned (OpenSpec.ofChange fnTouchOutSpec)

/-- ITS FALSE NEIGHBOUR: 'it returns false'. Refute it at one input. -/
def fnTouchOutWrong : ChangeSpec := { name := "fnTouchOut", fn := fun _ => fun
  | [d] => { results := [.lit (.bool false)], args := [d] }
  | _ => none }
def FnTouchOutWrongFalsely : Prop := fnTouchOutRow.holds Try.pinned (OpenSpec.ofChange fnTouchOutWrong)

/-- 'laws.FnRayBox': WHATEVER THE INPUT: true; the input reads as it did. -/
def fnRayBoxSpec : ChangeSpec := { name := "fnRayBox", fn := fun _ => fun
  | [d] => { results := [.lit (.bool true)], args := [d] }
  | _ => none }
def fnRayBoxRow : OpenClaim := { program := "ytcmnmeghlebngaa", sum := "1a887ac2447e1f4ddc13aca0c414abec93528671ddba77a439eec2613b0495f8", func := "loop.example/parquetry/laws.FnRayBox", spec := "fnRayBox", apart := false }
def FnRayBoxSaid : Prop := fnRayBoxRow.holds Try.pinned (OpenSpec.ofChange fnRayBoxSpec)

/-- ITS FALSE NEIGHBOUR: 'it returns false'. Refute it at one input. -/
def fnRayBoxWrong : ChangeSpec := { name := "fnRayBox", fn := fun _ => fun
  | [d] => { results := [.lit (.bool false)], args := [d] }
  | _ => none }
def FnRayBoxWrongFalsely : Prop := fnRayBoxRow.holds Try.pinned (OpenSpec.ofChange fnRayBoxWrong)

/-- 'laws.FnRayRound': WHATEVER THE INPUT: true; the input reads as it did. -/
def fnRayRoundSpec : ChangeSpec := { name := "fnRayRound", fn := fun _ => fun
  | [d] => { results := [.lit (.bool true)], args := [d] }
  | _ => none }
def fnRayRoundRow : OpenClaim := { program := "ytcmnmeghlebngaa", sum := "1a887ac2447e1f4ddc13aca0c414abec93528671ddba77a439eec2613b0495f8", func := "loop.example/parquetry/laws.FnRayRound", spec := "fnRayRound", apart := false }
def FnRayRoundSaid : Prop := fnRayRoundRow.holds Try.pinned (OpenSpec.ofChange fnRayRoundSpec)

/-- ITS FALSE NEIGHBOUR: 'it returns false'. Refute it at one input. -/
def fnRayRoundWrong : ChangeSpec := { name := "fnRayRound", fn := fun _ => fun
  | [d] => { results := [.lit (.bool false)], args := [d] }
  | _ => none }
def FnRayRoundWrongFalsely : Prop := fnRayRoundRow.holds Try.pinned (OpenSpec.ofChange fnRayRoundWrong)

/-- 'laws.FnRayShape': WHATEVER THE INPUT: true; the input reads as it did. -/
def fnRayShapeSpec : ChangeSpec := { name := "fnRayShape", fn := fun _ => fun
  | [d] => { results := [.lit (.bool true)], args := [d] }
  | _ => none }
def fnRayShapeRow : OpenClaim := { program := "ytcmnmeghlebngaa", sum := "1a887ac2447e1f4ddc13aca0c414abec93528671ddba77a439eec2613b0495f8", func := "loop.example/parquetry/laws.FnRayShape", spec := "fnRayShape", unfollowed := true, recurses := true, apart := false }
def FnRayShapeSaid : Prop := fnRayShapeRow.holds Try.pinned (OpenSpec.ofChange fnRayShapeSpec)

/-- ITS FALSE NEIGHBOUR: 'it returns false'. Refute it at one input. -/
def fnRayShapeWrong : ChangeSpec := { name := "fnRayShape", fn := fun _ => fun
  | [d] => { results := [.lit (.bool false)], args := [d] }
  | _ => none }
def FnRayShapeWrongFalsely : Prop := fnRayShapeRow.holds Try.pinned (OpenSpec.ofChange fnRayShapeWrong)

/-- 'laws.FnExactBroadOk': WHATEVER THE INPUT: true; the input reads as it did. -/
def fnExactBroadOkSpec : ChangeSpec := { name := "fnExactBroadOk", fn := fun _ => fun
  | [d] => { results := [.lit (.bool true)], args := [d] }
  | _ => none }
def fnExactBroadOkRow : OpenClaim := { program := "ytcmnmeghlebngaa", sum := "1a887ac2447e1f4ddc13aca0c414abec93528671ddba77a439eec2613b0495f8", func := "loop.example/parquetry/laws.FnExactBroadOk", spec := "fnExactBroadOk", apart := false }
def FnExactBroadOkSaid : Prop := fnExactBroadOkRow.holds Try.pinned (OpenSpec.ofChange fnExactBroadOkSpec)

/-- ITS FALSE NEIGHBOUR: 'it returns false'. Refute it at one input. -/
def fnExactBroadOkWrong : ChangeSpec := { name := "fnExactBroadOk", fn := fun _ => fun
  | [d] => { results := [.lit (.bool false)], args := [d] }
  | _ => none }
def FnExactBroadOkWrongFalsely : Prop := fnExactBroadOkRow.holds Try.pinned (OpenSpec.ofChange fnExactBroadOkWrong)

/-- 'laws.FnExactBroadPut': WHATEVER THE INPUT: true; the input reads as it did. -/
def fnExactBroadPutSpec : ChangeSpec := { name := "fnExactBroadPut", fn := fun _ => fun
  | [d1, d2] => { results := [.lit (.bool true)], args := [d1, d2] }
  | _ => none }
def fnExactBroadPutRow : OpenClaim := { program := "ytcmnmeghlebngaa", sum := "1a887ac2447e1f4ddc13aca0c414abec93528671ddba77a439eec2613b0495f8", func := "loop.example/parquetry/laws.FnExactBroadPut", spec := "fnExactBroadPut", apart := false }
def FnExactBroadPutSaid : Prop := fnExactBroadPutRow.holds Try.pinned (OpenSpec.ofChange fnExactBroadPutSpec)

/-- ITS FALSE NEIGHBOUR: 'it returns false'. Refute it at one input. -/
def fnExactBroadPutWrong : ChangeSpec := { name := "fnExactBroadPut", fn := fun _ => fun
  | [d1, d2] => { results := [.lit (.bool false)], args := [d1, d2] }
  | _ => none }
def FnExactBroadPutWrongFalsely : Prop := fnExactBroadPutRow.holds Try.pinned (OpenSpec.ofChange fnExactBroadPutWrong)

/-- 'laws.FnExactBroadGone': WHATEVER THE INPUT: true; the input reads as it did. -/
def fnExactBroadGoneSpec : ChangeSpec := { name := "fnExactBroadGone", fn := fun _ => fun
  | [d1, d2] => { results := [.lit (.bool true)], args := [d1, d2] }
  | _ => none }
def fnExactBroadGoneRow : OpenClaim := { program := "ytcmnmeghlebngaa", sum := "1a887ac2447e1f4ddc13aca0c414abec93528671ddba77a439eec2613b0495f8", func := "loop.example/parquetry/laws.FnExactBroadGone", spec := "fnExactBroadGone", apart := false }
def FnExactBroadGoneSaid : Prop := fnExactBroadGoneRow.holds Try.pinned (OpenSpec.ofChange fnExactBroadGoneSpec)

/-- ITS FALSE NEIGHBOUR: 'it returns false'. Refute it at one input. -/
def fnExactBroadGoneWrong : ChangeSpec := { name := "fnExactBroadGone", fn := fun _ => fun
  | [d1, d2] => { results := [.lit (.bool false)], args := [d1, d2] }
  | _ => none }
def FnExactBroadGoneWrongFalsely : Prop := fnExactBroadGoneRow.holds Try.pinned (OpenSpec.ofChange fnExactBroadGoneWrong)

/-- 'laws.FnExactBroadPairs': WHATEVER THE INPUT: true; the input reads as it did. -/
def fnExactBroadPairsSpec : ChangeSpec := { name := "fnExactBroadPairs", fn := fun _ => fun
  | [d] => { results := [.lit (.bool true)], args := [d] }
  | _ => none }
def fnExactBroadPairsRow : OpenClaim := { program := "ytcmnmeghlebngaa", sum := "1a887ac2447e1f4ddc13aca0c414abec93528671ddba77a439eec2613b0495f8", func := "loop.example/parquetry/laws.FnExactBroadPairs", spec := "fnExactBroadPairs", unfollowed := true, recurses := true, apart := false }
def FnExactBroadPairsSaid : Prop := fnExactBroadPairsRow.holds Try.pinned (OpenSpec.ofChange fnExactBroadPairsSpec)

/-- ITS FALSE NEIGHBOUR: 'it returns false'. Refute it at one input. -/
def fnExactBroadPairsWrong : ChangeSpec := { name := "fnExactBroadPairs", fn := fun _ => fun
  | [d] => { results := [.lit (.bool false)], args := [d] }
  | _ => none }
def FnExactBroadPairsWrongFalsely : Prop := fnExactBroadPairsRow.holds Try.pinned (OpenSpec.ofChange fnExactBroadPairsWrong)

/-- 'laws.FnExactBroadAsk': WHATEVER THE INPUT: true; the input reads as it did. -/
def fnExactBroadAskSpec : ChangeSpec := { name := "fnExactBroadAsk", fn := fun _ => fun
  | [d1, d2] => { results := [.lit (.bool true)], args := [d1, d2] }
  | _ => none }
def fnExactBroadAskRow : OpenClaim := { program := "ytcmnmeghlebngaa", sum := "1a887ac2447e1f4ddc13aca0c414abec93528671ddba77a439eec2613b0495f8", func := "loop.example/parquetry/laws.FnExactBroadAsk", spec := "fnExactBroadAsk", unfollowed := true, recurses := true, apart := false }
def FnExactBroadAskSaid : Prop := fnExactBroadAskRow.holds Try.pinned (OpenSpec.ofChange fnExactBroadAskSpec)

/-- ITS FALSE NEIGHBOUR: 'it returns false'. Refute it at one input. -/
def fnExactBroadAskWrong : ChangeSpec := { name := "fnExactBroadAsk", fn := fun _ => fun
  | [d1, d2] => { results := [.lit (.bool false)], args := [d1, d2] }
  | _ => none }
def FnExactBroadAskWrongFalsely : Prop := fnExactBroadAskRow.holds Try.pinned (OpenSpec.ofChange fnExactBroadAskWrong)

/-- 'laws.FnExactBroadNew': WHATEVER THE INPUT: true; the input reads as it did. -/
def fnExactBroadNewSpec : ChangeSpec := { name := "fnExactBroadNew", fn := fun _ => fun
  | [d1, d2] => { results := [.lit (.bool true)], args := [d1, d2] }
  | _ => none }
def fnExactBroadNewRow : OpenClaim := { program := "ytcmnmeghlebngaa", sum := "1a887ac2447e1f4ddc13aca0c414abec93528671ddba77a439eec2613b0495f8", func := "loop.example/parquetry/laws.FnExactBroadNew", spec := "fnExactBroadNew", unfollowed := true, recurses := true, apart := false }
def FnExactBroadNewSaid : Prop := fnExactBroadNewRow.holds Try.pinned (OpenSpec.ofChange fnExactBroadNewSpec)

/-- ITS FALSE NEIGHBOUR: 'it returns false'. Refute it at one input. -/
def fnExactBroadNewWrong : ChangeSpec := { name := "fnExactBroadNew", fn := fun _ => fun
  | [d1, d2] => { results := [.lit (.bool false)], args := [d1, d2] }
  | _ => none }
def FnExactBroadNewWrongFalsely : Prop := fnExactBroadNewRow.holds Try.pinned (OpenSpec.ofChange fnExactBroadNewWrong)

/-- 'laws.FnExactTouch': WHATEVER THE INPUT: true; the input reads as it did. -/
def fnExactTouchSpec : ChangeSpec := { name := "fnExactTouch", fn := fun _ => fun
  | [d1, d2, d3, d4] => { results := [.lit (.bool true)], args := [d1, d2, d3, d4] }
  | _ => none }
def fnExactTouchRow : OpenClaim := { program := "ytcmnmeghlebngaa", sum := "1a887ac2447e1f4ddc13aca0c414abec93528671ddba77a439eec2613b0495f8", func := "loop.example/parquetry/laws.FnExactTouch", spec := "fnExactTouch", unfollowed := true, recurses := true, apart := false }
def FnExactTouchSaid : Prop := fnExactTouchRow.holds Try.pinned (OpenSpec.ofChange fnExactTouchSpec)

/-- ITS FALSE NEIGHBOUR: 'it returns false'. Refute it at one input. -/
def fnExactTouchWrong : ChangeSpec := { name := "fnExactTouch", fn := fun _ => fun
  | [d1, d2, d3, d4] => { results := [.lit (.bool false)], args := [d1, d2, d3, d4] }
  | _ => none }
def FnExactTouchWrongFalsely : Prop := fnExactTouchRow.holds Try.pinned (OpenSpec.ofChange fnExactTouchWrong)

/-- 'laws.FnExactRayBox': WHATEVER THE INPUT: true; the input reads as it did. -/
def fnExactRayBoxSpec : ChangeSpec := { name := "fnExactRayBox", fn := fun _ => fun
  | [d1, d2] => { results := [.lit (.bool true)], args := [d1, d2] }
  | _ => none }
def fnExactRayBoxRow : OpenClaim := { program := "ytcmnmeghlebngaa", sum := "1a887ac2447e1f4ddc13aca0c414abec93528671ddba77a439eec2613b0495f8", func := "loop.example/parquetry/laws.FnExactRayBox", spec := "fnExactRayBox", apart := false }
def FnExactRayBoxSaid : Prop := fnExactRayBoxRow.holds Try.pinned (OpenSpec.ofChange fnExactRayBoxSpec)

/-- ITS FALSE NEIGHBOUR: 'it returns false'. Refute it at one input. -/
def fnExactRayBoxWrong : ChangeSpec := { name := "fnExactRayBox", fn := fun _ => fun
  | [d1, d2] => { results := [.lit (.bool false)], args := [d1, d2] }
  | _ => none }
def FnExactRayBoxWrongFalsely : Prop := fnExactRayBoxRow.holds Try.pinned (OpenSpec.ofChange fnExactRayBoxWrong)

/-- 'laws.FnExactRayRound': WHATEVER THE INPUT: true; the input reads as it did. -/
def fnExactRayRoundSpec : ChangeSpec := { name := "fnExactRayRound", fn := fun _ => fun
  | [d1, d2, d3] => { results := [.lit (.bool true)], args := [d1, d2, d3] }
  | _ => none }
def fnExactRayRoundRow : OpenClaim := { program := "ytcmnmeghlebngaa", sum := "1a887ac2447e1f4ddc13aca0c414abec93528671ddba77a439eec2613b0495f8", func := "loop.example/parquetry/laws.FnExactRayRound", spec := "fnExactRayRound", apart := false }
def FnExactRayRoundSaid : Prop := fnExactRayRoundRow.holds Try.pinned (OpenSpec.ofChange fnExactRayRoundSpec)

/-- ITS FALSE NEIGHBOUR: 'it returns false'. Refute it at one input. -/
def fnExactRayRoundWrong : ChangeSpec := { name := "fnExactRayRound", fn := fun _ => fun
  | [d1, d2, d3] => { results := [.lit (.bool false)], args := [d1, d2, d3] }
  | _ => none }
def FnExactRayRoundWrongFalsely : Prop := fnExactRayRoundRow.holds Try.pinned (OpenSpec.ofChange fnExactRayRoundWrong)

/-- 'laws.FnExactRayShape': WHATEVER THE INPUT: true; the input reads as it did. -/
def fnExactRayShapeSpec : ChangeSpec := { name := "fnExactRayShape", fn := fun _ => fun
  | [d1, d2, d3] => { results := [.lit (.bool true)], args := [d1, d2, d3] }
  | _ => none }
def fnExactRayShapeRow : OpenClaim := { program := "ytcmnmeghlebngaa", sum := "1a887ac2447e1f4ddc13aca0c414abec93528671ddba77a439eec2613b0495f8", func := "loop.example/parquetry/laws.FnExactRayShape", spec := "fnExactRayShape", apart := false }
def FnExactRayShapeSaid : Prop := fnExactRayShapeRow.holds Try.pinned (OpenSpec.ofChange fnExactRayShapeSpec)

/-- ITS FALSE NEIGHBOUR: 'it returns false'. Refute it at one input. -/
def fnExactRayShapeWrong : ChangeSpec := { name := "fnExactRayShape", fn := fun _ => fun
  | [d1, d2, d3] => { results := [.lit (.bool false)], args := [d1, d2, d3] }
  | _ => none }
def FnExactRayShapeWrongFalsely : Prop := fnExactRayShapeRow.holds Try.pinned (OpenSpec.ofChange fnExactRayShapeWrong)

/- THE SECOND FORM. 'bulk': how many values and letters a reading holds, each counted each time it is reached (what is shared counts as often as it is met; a slice's spare places count too). A statement '..UptoSaid' is the law's where the arguments, and the package variables that the reading takes, are together of bulk at most 1048576: NARROWER than '..Said'. Prove '..Said' where nothing that the law and all that it calls make is longer than what came in: it says more and counts as full. Else prove '..UptoSaid'. A law counts once. -/
mutual
def uptoBulk {H : Type} : DataW H → Nat
  | .lit (.string bytes) => bytes.length + 1
  | .lit _ => 1
  | .nil => 1
  | .ptr d => uptoBulk d + 1
  | .slice elems spare => uptoBulkAll elems + uptoBulkAll spare + 1
  | .agg parts => uptoBulkAll parts + 1
  | .iface _ d => uptoBulk d + 1
  | .map entries => uptoBulkEntries entries + 1
  | .held _ => 1
def uptoBulkAll {H : Type} : List (DataW H) → Nat
  | [] => 0
  | d :: r => uptoBulk d + uptoBulkAll r
def uptoBulkEntries {H : Type} : List (Lit × DataW H) → Nat
  | [] => 0
  | x :: r => uptoBulkEntry x + uptoBulkEntries r
def uptoBulkEntry {H : Type} : Lit × DataW H → Nat
  | (.string bytes, d) => bytes.length + uptoBulk d + 1
  | (_, d) => uptoBulk d + 1
 end
def uptoSmall : (H : Type) → List (DataW H) → Bool := fun _ ds => decide (uptoBulkAll ds ≤ 1048576)
def OpenSpec.upto (s : _root_.Go.ChangeSpec) : _root_.Go.OpenSpec := { _root_.Go.OpenSpec.ofChange s with cond := some uptoSmall }

/-- 'laws.FnBroadPut', WHERE WHAT IT READS IS OF BULK AT MOST 1048576: true; the input reads as it did. -/
def fnBroadPutUptoRow : OpenClaim := { program := "ytcmnmeghlebngaa", sum := "1a887ac2447e1f4ddc13aca0c414abec93528671ddba77a439eec2613b0495f8", func := "loop.example/parquetry/laws.FnBroadPut", spec := "fnBroadPut", unfollowed := true, recurses := true, apart := false, narrowed := true }
def FnBroadPutUptoSaid : Prop := fnBroadPutUptoRow.holds Try.pinned (OpenSpec.upto fnBroadPutSpec)

/-- 'laws.FnBroadGone', WHERE WHAT IT READS IS OF BULK AT MOST 1048576: true; the input reads as it did. -/
def fnBroadGoneUptoRow : OpenClaim := { program := "ytcmnmeghlebngaa", sum := "1a887ac2447e1f4ddc13aca0c414abec93528671ddba77a439eec2613b0495f8", func := "loop.example/parquetry/laws.FnBroadGone", spec := "fnBroadGone", unfollowed := true, recurses := true, apart := false, narrowed := true }
def FnBroadGoneUptoSaid : Prop := fnBroadGoneUptoRow.holds Try.pinned (OpenSpec.upto fnBroadGoneSpec)

/-- 'laws.FnBroadPairs', WHERE WHAT IT READS IS OF BULK AT MOST 1048576: true; the input reads as it did. -/
def fnBroadPairsUptoRow : OpenClaim := { program := "ytcmnmeghlebngaa", sum := "1a887ac2447e1f4ddc13aca0c414abec93528671ddba77a439eec2613b0495f8", func := "loop.example/parquetry/laws.FnBroadPairs", spec := "fnBroadPairs", unfollowed := true, recurses := true, apart := false, narrowed := true }
def FnBroadPairsUptoSaid : Prop := fnBroadPairsUptoRow.holds Try.pinned (OpenSpec.upto fnBroadPairsSpec)

/-- 'laws.FnBroadAsk', WHERE WHAT IT READS IS OF BULK AT MOST 1048576: true; the input reads as it did. -/
def fnBroadAskUptoRow : OpenClaim := { program := "ytcmnmeghlebngaa", sum := "1a887ac2447e1f4ddc13aca0c414abec93528671ddba77a439eec2613b0495f8", func := "loop.example/parquetry/laws.FnBroadAsk", spec := "fnBroadAsk", unfollowed := true, recurses := true, apart := false, narrowed := true }
def FnBroadAskUptoSaid : Prop := fnBroadAskUptoRow.holds Try.pinned (OpenSpec.upto fnBroadAskSpec)

/-- 'laws.FnBroadNew', WHERE WHAT IT READS IS OF BULK AT MOST 1048576: true; the input reads as it did. -/
def fnBroadNewUptoRow : OpenClaim := { program := "ytcmnmeghlebngaa", sum := "1a887ac2447e1f4ddc13aca0c414abec93528671ddba77a439eec2613b0495f8", func := "loop.example/parquetry/laws.FnBroadNew", spec := "fnBroadNew", unfollowed := true, recurses := true, apart := false, narrowed := true }
def FnBroadNewUptoSaid : Prop := fnBroadNewUptoRow.holds Try.pinned (OpenSpec.upto fnBroadNewSpec)

/-- 'laws.FnBroadOrder', WHERE WHAT IT READS IS OF BULK AT MOST 1048576: true; the input reads as it did. -/
def fnBroadOrderUptoRow : OpenClaim := { program := "ytcmnmeghlebngaa", sum := "1a887ac2447e1f4ddc13aca0c414abec93528671ddba77a439eec2613b0495f8", func := "loop.example/parquetry/laws.FnBroadOrder", spec := "fnBroadOrder", unfollowed := true, recurses := true, apart := false, narrowed := true }
def FnBroadOrderUptoSaid : Prop := fnBroadOrderUptoRow.holds Try.pinned (OpenSpec.upto fnBroadOrderSpec)

/-- 'laws.FnTouch', WHERE WHAT IT READS IS OF BULK AT MOST 1048576: true; the input reads as it did. -/
def fnTouchUptoRow : OpenClaim := { program := "ytcmnmeghlebngaa", sum := "1a887ac2447e1f4ddc13aca0c414abec93528671ddba77a439eec2613b0495f8", func := "loop.example/parquetry/laws.FnTouch", spec := "fnTouch", unfollowed := true, recurses := true, apart := false, narrowed := true }
def FnTouchUptoSaid : Prop := fnTouchUptoRow.holds Try.pinned (OpenSpec.upto fnTouchSpec)

/-- 'laws.FnTouchPoint', WHERE WHAT IT READS IS OF BULK AT MOST 1048576: true; the input reads as it did. -/
def fnTouchPointUptoRow : OpenClaim := { program := "ytcmnmeghlebngaa", sum := "1a887ac2447e1f4ddc13aca0c414abec93528671ddba77a439eec2613b0495f8", func := "loop.example/parquetry/laws.FnTouchPoint", spec := "fnTouchPoint", unfollowed := true, recurses := true, apart := false, narrowed := true }
def FnTouchPointUptoSaid : Prop := fnTouchPointUptoRow.holds Try.pinned (OpenSpec.upto fnTouchPointSpec)

/-- 'laws.FnTouchOut', WHERE WHAT IT READS IS OF BULK AT MOST 1048576: true; the input reads as it did. -/
def fnTouchOutUptoRow : OpenClaim := { program := "ytcmnmeghlebngaa", sum := "1a887ac2447e1f4ddc13aca0c414abec93528671ddba77a439eec2613b0495f8", func := "loop.example/parquetry/laws.FnTouchOut", spec := "fnTouchOut", unfollowed := true, recurses := true, apart := false, narrowed := true }
def FnTouchOutUptoSaid : Prop := fnTouchOutUptoRow.holds Try.pinned (OpenSpec.upto fnTouchOutSpec)

/-- 'laws.FnRayBox', WHERE WHAT IT READS IS OF BULK AT MOST 1048576: true; the input reads as it did. -/
def fnRayBoxUptoRow : OpenClaim := { program := "ytcmnmeghlebngaa", sum := "1a887ac2447e1f4ddc13aca0c414abec93528671ddba77a439eec2613b0495f8", func := "loop.example/parquetry/laws.FnRayBox", spec := "fnRayBox", apart := false, narrowed := true }
def FnRayBoxUptoSaid : Prop := fnRayBoxUptoRow.holds Try.pinned (OpenSpec.upto fnRayBoxSpec)

/-- 'laws.FnRayRound', WHERE WHAT IT READS IS OF BULK AT MOST 1048576: true; the input reads as it did. -/
def fnRayRoundUptoRow : OpenClaim := { program := "ytcmnmeghlebngaa", sum := "1a887ac2447e1f4ddc13aca0c414abec93528671ddba77a439eec2613b0495f8", func := "loop.example/parquetry/laws.FnRayRound", spec := "fnRayRound", apart := false, narrowed := true }
def FnRayRoundUptoSaid : Prop := fnRayRoundUptoRow.holds Try.pinned (OpenSpec.upto fnRayRoundSpec)

/-- 'laws.FnRayShape', WHERE WHAT IT READS IS OF BULK AT MOST 1048576: true; the input reads as it did. -/
def fnRayShapeUptoRow : OpenClaim := { program := "ytcmnmeghlebngaa", sum := "1a887ac2447e1f4ddc13aca0c414abec93528671ddba77a439eec2613b0495f8", func := "loop.example/parquetry/laws.FnRayShape", spec := "fnRayShape", unfollowed := true, recurses := true, apart := false, narrowed := true }
def FnRayShapeUptoSaid : Prop := fnRayShapeUptoRow.holds Try.pinned (OpenSpec.upto fnRayShapeSpec)

/-- 'laws.FnExactBroadOk', WHERE WHAT IT READS IS OF BULK AT MOST 1048576: true; the input reads as it did. -/
def fnExactBroadOkUptoRow : OpenClaim := { program := "ytcmnmeghlebngaa", sum := "1a887ac2447e1f4ddc13aca0c414abec93528671ddba77a439eec2613b0495f8", func := "loop.example/parquetry/laws.FnExactBroadOk", spec := "fnExactBroadOk", apart := false, narrowed := true }
def FnExactBroadOkUptoSaid : Prop := fnExactBroadOkUptoRow.holds Try.pinned (OpenSpec.upto fnExactBroadOkSpec)

/-- 'laws.FnExactBroadPut', WHERE WHAT IT READS IS OF BULK AT MOST 1048576: true; the input reads as it did. -/
def fnExactBroadPutUptoRow : OpenClaim := { program := "ytcmnmeghlebngaa", sum := "1a887ac2447e1f4ddc13aca0c414abec93528671ddba77a439eec2613b0495f8", func := "loop.example/parquetry/laws.FnExactBroadPut", spec := "fnExactBroadPut", apart := false, narrowed := true }
def FnExactBroadPutUptoSaid : Prop := fnExactBroadPutUptoRow.holds Try.pinned (OpenSpec.upto fnExactBroadPutSpec)

/-- 'laws.FnExactBroadGone', WHERE WHAT IT READS IS OF BULK AT MOST 1048576: true; the input reads as it did. -/
def fnExactBroadGoneUptoRow : OpenClaim := { program := "ytcmnmeghlebngaa", sum := "1a887ac2447e1f4ddc13aca0c414abec93528671ddba77a439eec2613b0495f8", func := "loop.example/parquetry/laws.FnExactBroadGone", spec := "fnExactBroadGone", apart := false, narrowed := true }
def FnExactBroadGoneUptoSaid : Prop := fnExactBroadGoneUptoRow.holds Try.pinned (OpenSpec.upto fnExactBroadGoneSpec)

/-- 'laws.FnExactBroadPairs', WHERE WHAT IT READS IS OF BULK AT MOST 1048576: true; the input reads as it did. -/
def fnExactBroadPairsUptoRow : OpenClaim := { program := "ytcmnmeghlebngaa", sum := "1a887ac2447e1f4ddc13aca0c414abec93528671ddba77a439eec2613b0495f8", func := "loop.example/parquetry/laws.FnExactBroadPairs", spec := "fnExactBroadPairs", unfollowed := true, recurses := true, apart := false, narrowed := true }
def FnExactBroadPairsUptoSaid : Prop := fnExactBroadPairsUptoRow.holds Try.pinned (OpenSpec.upto fnExactBroadPairsSpec)

/-- 'laws.FnExactBroadAsk', WHERE WHAT IT READS IS OF BULK AT MOST 1048576: true; the input reads as it did. -/
def fnExactBroadAskUptoRow : OpenClaim := { program := "ytcmnmeghlebngaa", sum := "1a887ac2447e1f4ddc13aca0c414abec93528671ddba77a439eec2613b0495f8", func := "loop.example/parquetry/laws.FnExactBroadAsk", spec := "fnExactBroadAsk", unfollowed := true, recurses := true, apart := false, narrowed := true }
def FnExactBroadAskUptoSaid : Prop := fnExactBroadAskUptoRow.holds Try.pinned (OpenSpec.upto fnExactBroadAskSpec)

/-- 'laws.FnExactBroadNew', WHERE WHAT IT READS IS OF BULK AT MOST 1048576: true; the input reads as it did. -/
def fnExactBroadNewUptoRow : OpenClaim := { program := "ytcmnmeghlebngaa", sum := "1a887ac2447e1f4ddc13aca0c414abec93528671ddba77a439eec2613b0495f8", func := "loop.example/parquetry/laws.FnExactBroadNew", spec := "fnExactBroadNew", unfollowed := true, recurses := true, apart := false, narrowed := true }
def FnExactBroadNewUptoSaid : Prop := fnExactBroadNewUptoRow.holds Try.pinned (OpenSpec.upto fnExactBroadNewSpec)

/-- 'laws.FnExactTouch', WHERE WHAT IT READS IS OF BULK AT MOST 1048576: true; the input reads as it did. -/
def fnExactTouchUptoRow : OpenClaim := { program := "ytcmnmeghlebngaa", sum := "1a887ac2447e1f4ddc13aca0c414abec93528671ddba77a439eec2613b0495f8", func := "loop.example/parquetry/laws.FnExactTouch", spec := "fnExactTouch", unfollowed := true, recurses := true, apart := false, narrowed := true }
def FnExactTouchUptoSaid : Prop := fnExactTouchUptoRow.holds Try.pinned (OpenSpec.upto fnExactTouchSpec)

/-- 'laws.FnExactRayBox', WHERE WHAT IT READS IS OF BULK AT MOST 1048576: true; the input reads as it did. -/
def fnExactRayBoxUptoRow : OpenClaim := { program := "ytcmnmeghlebngaa", sum := "1a887ac2447e1f4ddc13aca0c414abec93528671ddba77a439eec2613b0495f8", func := "loop.example/parquetry/laws.FnExactRayBox", spec := "fnExactRayBox", apart := false, narrowed := true }
def FnExactRayBoxUptoSaid : Prop := fnExactRayBoxUptoRow.holds Try.pinned (OpenSpec.upto fnExactRayBoxSpec)

/-- 'laws.FnExactRayRound', WHERE WHAT IT READS IS OF BULK AT MOST 1048576: true; the input reads as it did. -/
def fnExactRayRoundUptoRow : OpenClaim := { program := "ytcmnmeghlebngaa", sum := "1a887ac2447e1f4ddc13aca0c414abec93528671ddba77a439eec2613b0495f8", func := "loop.example/parquetry/laws.FnExactRayRound", spec := "fnExactRayRound", apart := false, narrowed := true }
def FnExactRayRoundUptoSaid : Prop := fnExactRayRoundUptoRow.holds Try.pinned (OpenSpec.upto fnExactRayRoundSpec)

/-- 'laws.FnExactRayShape', WHERE WHAT IT READS IS OF BULK AT MOST 1048576: true; the input reads as it did. -/
def fnExactRayShapeUptoRow : OpenClaim := { program := "ytcmnmeghlebngaa", sum := "1a887ac2447e1f4ddc13aca0c414abec93528671ddba77a439eec2613b0495f8", func := "loop.example/parquetry/laws.FnExactRayShape", spec := "fnExactRayShape", apart := false, narrowed := true }
def FnExactRayShapeUptoSaid : Prop := fnExactRayShapeUptoRow.holds Try.pinned (OpenSpec.upto fnExactRayShapeSpec)

end Rows
end Go.Proofs.Ytcmnmeghlebngaa
