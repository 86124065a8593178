/-
  No cell of these rows narrows 'for every input' (looked for: loops, veiled, ifaces, maps, wideKeys, modest, calm, conditions, laid).
  DERIVED. THE GIVEN ROWS OF THIS SEAT. 18 by the template 'for every input the law returns true; each argument reads behind the call as it read before'; 0 by the template 'total and deterministic' (their statements: YtpfedfoiopcilaaTotals.lean).
  GIVEN WITH THE SEED: the statements are not yours to turn. If you find one false, say at which input.
  Laid BY PROGRAM, IN A SANDBOX (cutbox-rows.mjs): the forced cells as the released guide's own fill.sh prints them over the translation d83579518a852bde… (all of the seat's roots in one cut). By AI agents, Wed Nov 11 2026. No macro, syntax, notation, axiom, sorry.
-/
import Derived.Test.YtpfedfoiopcilaaChecked
import GoSem.Claim
import GoSem.ClaimJoined
import GoSem.ClaimMapViews
import Derived.JoinedTies
import Derived.KernelRfl
namespace Go.Proofs.Ytpfedfoiopcilaa
/- THE CELL 'sum', in the pinned program and in every row, IS THE sha256 OF THE DUMP (.gsa) THAT YtpfedfoiopcilaaProg.lean LOADS. Nothing in Lean hashes anything: it is a label: what it is worth is what the hold of that sum in a sandbox is worth. -/
noncomputable def Try.pinned : Pinned := { name := "ytpfedfoiopcilaa", sum := "d83579518a852bde93ba715b0b57405d17592ef0beb64778cd5b5f7f4768a19b", checked := Try.checked }
namespace Rows
def none {H : Type} : Left H := { results := [], args := [] }

/-- 'laws.FnVecAdd': WHATEVER THE INPUT: true; the input reads as it did. -/
def fnVecAddSpec : ChangeSpec := { name := "fnVecAdd", fn := fun _ => fun
  | [d] => { results := [.lit (.bool true)], args := [d] }
  | _ => none }
def fnVecAddRow : OpenClaim := { program := "ytpfedfoiopcilaa", sum := "d83579518a852bde93ba715b0b57405d17592ef0beb64778cd5b5f7f4768a19b", func := "loop.example/parquetry/laws.FnVecAdd", spec := "fnVecAdd", apart := false }
def FnVecAddSaid : Prop := fnVecAddRow.holds Try.pinned (OpenSpec.ofChange fnVecAddSpec)

/-- ITS FALSE NEIGHBOUR: 'it returns false'. Refute it at one input. -/
def fnVecAddWrong : ChangeSpec := { name := "fnVecAdd", fn := fun _ => fun
  | [d] => { results := [.lit (.bool false)], args := [d] }
  | _ => none }
def FnVecAddWrongFalsely : Prop := fnVecAddRow.holds Try.pinned (OpenSpec.ofChange fnVecAddWrong)

/-- 'laws.FnVecSub': WHATEVER THE INPUT: true; the input reads as it did. -/
def fnVecSubSpec : ChangeSpec := { name := "fnVecSub", fn := fun _ => fun
  | [d] => { results := [.lit (.bool true)], args := [d] }
  | _ => none }
def fnVecSubRow : OpenClaim := { program := "ytpfedfoiopcilaa", sum := "d83579518a852bde93ba715b0b57405d17592ef0beb64778cd5b5f7f4768a19b", func := "loop.example/parquetry/laws.FnVecSub", spec := "fnVecSub", apart := false }
def FnVecSubSaid : Prop := fnVecSubRow.holds Try.pinned (OpenSpec.ofChange fnVecSubSpec)

/-- ITS FALSE NEIGHBOUR: 'it returns false'. Refute it at one input. -/
def fnVecSubWrong : ChangeSpec := { name := "fnVecSub", fn := fun _ => fun
  | [d] => { results := [.lit (.bool false)], args := [d] }
  | _ => none }
def FnVecSubWrongFalsely : Prop := fnVecSubRow.holds Try.pinned (OpenSpec.ofChange fnVecSubWrong)

/-- 'laws.FnVecMul': WHATEVER THE INPUT: true; the input reads as it did. -/
def fnVecMulSpec : ChangeSpec := { name := "fnVecMul", fn := fun _ => fun
  | [d] => { results := [.lit (.bool true)], args := [d] }
  | _ => none }
def fnVecMulRow : OpenClaim := { program := "ytpfedfoiopcilaa", sum := "d83579518a852bde93ba715b0b57405d17592ef0beb64778cd5b5f7f4768a19b", func := "loop.example/parquetry/laws.FnVecMul", spec := "fnVecMul", apart := false }
def FnVecMulSaid : Prop := fnVecMulRow.holds Try.pinned (OpenSpec.ofChange fnVecMulSpec)

/-- ITS FALSE NEIGHBOUR: 'it returns false'. Refute it at one input. -/
def fnVecMulWrong : ChangeSpec := { name := "fnVecMul", fn := fun _ => fun
  | [d] => { results := [.lit (.bool false)], args := [d] }
  | _ => none }
def FnVecMulWrongFalsely : Prop := fnVecMulRow.holds Try.pinned (OpenSpec.ofChange fnVecMulWrong)

/-- 'laws.FnVecDot': WHATEVER THE INPUT: true; the input reads as it did. -/
def fnVecDotSpec : ChangeSpec := { name := "fnVecDot", fn := fun _ => fun
  | [d] => { results := [.lit (.bool true)], args := [d] }
  | _ => none }
def fnVecDotRow : OpenClaim := { program := "ytpfedfoiopcilaa", sum := "d83579518a852bde93ba715b0b57405d17592ef0beb64778cd5b5f7f4768a19b", func := "loop.example/parquetry/laws.FnVecDot", spec := "fnVecDot", unfollowed := true, recurses := true, apart := false }
def FnVecDotSaid : Prop := fnVecDotRow.holds Try.pinned (OpenSpec.ofChange fnVecDotSpec)

/-- ITS FALSE NEIGHBOUR: 'it returns false'. Refute it at one input. -/
def fnVecDotWrong : ChangeSpec := { name := "fnVecDot", fn := fun _ => fun
  | [d] => { results := [.lit (.bool false)], args := [d] }
  | _ => none }
def FnVecDotWrongFalsely : Prop := fnVecDotRow.holds Try.pinned (OpenSpec.ofChange fnVecDotWrong)

/-- 'laws.FnVecLen': WHATEVER THE INPUT: true; the input reads as it did. -/
def fnVecLenSpec : ChangeSpec := { name := "fnVecLen", fn := fun _ => fun
  | [d1, d2] => { results := [.lit (.bool true)], args := [d1, d2] }
  | _ => none }
def fnVecLenRow : OpenClaim := { program := "ytpfedfoiopcilaa", sum := "d83579518a852bde93ba715b0b57405d17592ef0beb64778cd5b5f7f4768a19b", func := "loop.example/parquetry/laws.FnVecLen", spec := "fnVecLen", unfollowed := true, recurses := true, apart := false }
def FnVecLenSaid : Prop := fnVecLenRow.holds Try.pinned (OpenSpec.ofChange fnVecLenSpec)

/-- ITS FALSE NEIGHBOUR: 'it returns false'. Refute it at one input. -/
def fnVecLenWrong : ChangeSpec := { name := "fnVecLen", fn := fun _ => fun
  | [d1, d2] => { results := [.lit (.bool false)], args := [d1, d2] }
  | _ => none }
def FnVecLenWrongFalsely : Prop := fnVecLenRow.holds Try.pinned (OpenSpec.ofChange fnVecLenWrong)

/-- 'laws.FnVecUnit': WHATEVER THE INPUT: true; the input reads as it did. -/
def fnVecUnitSpec : ChangeSpec := { name := "fnVecUnit", fn := fun _ => fun
  | [d] => { results := [.lit (.bool true)], args := [d] }
  | _ => none }
def fnVecUnitRow : OpenClaim := { program := "ytpfedfoiopcilaa", sum := "d83579518a852bde93ba715b0b57405d17592ef0beb64778cd5b5f7f4768a19b", func := "loop.example/parquetry/laws.FnVecUnit", spec := "fnVecUnit", unfollowed := true, recurses := true, apart := false }
def FnVecUnitSaid : Prop := fnVecUnitRow.holds Try.pinned (OpenSpec.ofChange fnVecUnitSpec)

/-- ITS FALSE NEIGHBOUR: 'it returns false'. Refute it at one input. -/
def fnVecUnitWrong : ChangeSpec := { name := "fnVecUnit", fn := fun _ => fun
  | [d] => { results := [.lit (.bool false)], args := [d] }
  | _ => none }
def FnVecUnitWrongFalsely : Prop := fnVecUnitRow.holds Try.pinned (OpenSpec.ofChange fnVecUnitWrong)

/-- 'laws.FnShapeBounds': WHATEVER THE INPUT: true; the input reads as it did. -/
def fnShapeBoundsSpec : ChangeSpec := { name := "fnShapeBounds", fn := fun _ => fun
  | [d] => { results := [.lit (.bool true)], args := [d] }
  | _ => none }
def fnShapeBoundsRow : OpenClaim := { program := "ytpfedfoiopcilaa", sum := "d83579518a852bde93ba715b0b57405d17592ef0beb64778cd5b5f7f4768a19b", func := "loop.example/parquetry/laws.FnShapeBounds", spec := "fnShapeBounds", unfollowed := true, recurses := true, apart := false }
def FnShapeBoundsSaid : Prop := fnShapeBoundsRow.holds Try.pinned (OpenSpec.ofChange fnShapeBoundsSpec)

/-- ITS FALSE NEIGHBOUR: 'it returns false'. Refute it at one input. -/
def fnShapeBoundsWrong : ChangeSpec := { name := "fnShapeBounds", fn := fun _ => fun
  | [d] => { results := [.lit (.bool false)], args := [d] }
  | _ => none }
def FnShapeBoundsWrongFalsely : Prop := fnShapeBoundsRow.holds Try.pinned (OpenSpec.ofChange fnShapeBoundsWrong)

/-- 'laws.FnShapeHas': WHATEVER THE INPUT: true; the input reads as it did. -/
def fnShapeHasSpec : ChangeSpec := { name := "fnShapeHas", fn := fun _ => fun
  | [d] => { results := [.lit (.bool true)], args := [d] }
  | _ => none }
def fnShapeHasRow : OpenClaim := { program := "ytpfedfoiopcilaa", sum := "d83579518a852bde93ba715b0b57405d17592ef0beb64778cd5b5f7f4768a19b", func := "loop.example/parquetry/laws.FnShapeHas", spec := "fnShapeHas", unfollowed := true, recurses := true, apart := false }
def FnShapeHasSaid : Prop := fnShapeHasRow.holds Try.pinned (OpenSpec.ofChange fnShapeHasSpec)

/-- ITS FALSE NEIGHBOUR: 'it returns false'. Refute it at one input. -/
def fnShapeHasWrong : ChangeSpec := { name := "fnShapeHas", fn := fun _ => fun
  | [d] => { results := [.lit (.bool false)], args := [d] }
  | _ => none }
def FnShapeHasWrongFalsely : Prop := fnShapeHasRow.holds Try.pinned (OpenSpec.ofChange fnShapeHasWrong)

/-- 'laws.FnBoxMeets': WHATEVER THE INPUT: true; the input reads as it did. -/
def fnBoxMeetsSpec : ChangeSpec := { name := "fnBoxMeets", fn := fun _ => fun
  | [d] => { results := [.lit (.bool true)], args := [d] }
  | _ => none }
def fnBoxMeetsRow : OpenClaim := { program := "ytpfedfoiopcilaa", sum := "d83579518a852bde93ba715b0b57405d17592ef0beb64778cd5b5f7f4768a19b", func := "loop.example/parquetry/laws.FnBoxMeets", spec := "fnBoxMeets", apart := false }
def FnBoxMeetsSaid : Prop := fnBoxMeetsRow.holds Try.pinned (OpenSpec.ofChange fnBoxMeetsSpec)

/-- ITS FALSE NEIGHBOUR: 'it returns false'. Refute it at one input. -/
def fnBoxMeetsWrong : ChangeSpec := { name := "fnBoxMeets", fn := fun _ => fun
  | [d] => { results := [.lit (.bool false)], args := [d] }
  | _ => none }
def FnBoxMeetsWrongFalsely : Prop := fnBoxMeetsRow.holds Try.pinned (OpenSpec.ofChange fnBoxMeetsWrong)

/-- 'laws.FnBoxBoth': WHATEVER THE INPUT: true; the input reads as it did. -/
def fnBoxBothSpec : ChangeSpec := { name := "fnBoxBoth", fn := fun _ => fun
  | [d] => { results := [.lit (.bool true)], args := [d] }
  | _ => none }
def fnBoxBothRow : OpenClaim := { program := "ytpfedfoiopcilaa", sum := "d83579518a852bde93ba715b0b57405d17592ef0beb64778cd5b5f7f4768a19b", func := "loop.example/parquetry/laws.FnBoxBoth", spec := "fnBoxBoth", apart := false }
def FnBoxBothSaid : Prop := fnBoxBothRow.holds Try.pinned (OpenSpec.ofChange fnBoxBothSpec)

/-- ITS FALSE NEIGHBOUR: 'it returns false'. Refute it at one input. -/
def fnBoxBothWrong : ChangeSpec := { name := "fnBoxBoth", fn := fun _ => fun
  | [d] => { results := [.lit (.bool false)], args := [d] }
  | _ => none }
def FnBoxBothWrongFalsely : Prop := fnBoxBothRow.holds Try.pinned (OpenSpec.ofChange fnBoxBothWrong)

/-- 'laws.FnBoxHas': WHATEVER THE INPUT: true; the input reads as it did. -/
def fnBoxHasSpec : ChangeSpec := { name := "fnBoxHas", fn := fun _ => fun
  | [d1, d2] => { results := [.lit (.bool true)], args := [d1, d2] }
  | _ => none }
def fnBoxHasRow : OpenClaim := { program := "ytpfedfoiopcilaa", sum := "d83579518a852bde93ba715b0b57405d17592ef0beb64778cd5b5f7f4768a19b", func := "loop.example/parquetry/laws.FnBoxHas", spec := "fnBoxHas", apart := false }
def FnBoxHasSaid : Prop := fnBoxHasRow.holds Try.pinned (OpenSpec.ofChange fnBoxHasSpec)

/-- ITS FALSE NEIGHBOUR: 'it returns false'. Refute it at one input. -/
def fnBoxHasWrong : ChangeSpec := { name := "fnBoxHas", fn := fun _ => fun
  | [d1, d2] => { results := [.lit (.bool false)], args := [d1, d2] }
  | _ => none }
def FnBoxHasWrongFalsely : Prop := fnBoxHasRow.holds Try.pinned (OpenSpec.ofChange fnBoxHasWrong)

/-- 'laws.FnBoxNear': WHATEVER THE INPUT: true; the input reads as it did. -/
def fnBoxNearSpec : ChangeSpec := { name := "fnBoxNear", fn := fun _ => fun
  | [d] => { results := [.lit (.bool true)], args := [d] }
  | _ => none }
def fnBoxNearRow : OpenClaim := { program := "ytpfedfoiopcilaa", sum := "d83579518a852bde93ba715b0b57405d17592ef0beb64778cd5b5f7f4768a19b", func := "loop.example/parquetry/laws.FnBoxNear", spec := "fnBoxNear", apart := false }
def FnBoxNearSaid : Prop := fnBoxNearRow.holds Try.pinned (OpenSpec.ofChange fnBoxNearSpec)

/-- ITS FALSE NEIGHBOUR: 'it returns false'. Refute it at one input. -/
def fnBoxNearWrong : ChangeSpec := { name := "fnBoxNear", fn := fun _ => fun
  | [d] => { results := [.lit (.bool false)], args := [d] }
  | _ => none }
def FnBoxNearWrongFalsely : Prop := fnBoxNearRow.holds Try.pinned (OpenSpec.ofChange fnBoxNearWrong)

/-- 'laws.FnExactShapeBounds': WHATEVER THE INPUT: true; the input reads as it did. -/
def fnExactShapeBoundsSpec : ChangeSpec := { name := "fnExactShapeBounds", fn := fun _ => fun
  | [d1, d2] => { results := [.lit (.bool true)], args := [d1, d2] }
  | _ => none }
def fnExactShapeBoundsRow : OpenClaim := { program := "ytpfedfoiopcilaa", sum := "d83579518a852bde93ba715b0b57405d17592ef0beb64778cd5b5f7f4768a19b", func := "loop.example/parquetry/laws.FnExactShapeBounds", spec := "fnExactShapeBounds", unfollowed := true, recurses := true, apart := false }
def FnExactShapeBoundsSaid : Prop := fnExactShapeBoundsRow.holds Try.pinned (OpenSpec.ofChange fnExactShapeBoundsSpec)

/-- ITS FALSE NEIGHBOUR: 'it returns false'. Refute it at one input. -/
def fnExactShapeBoundsWrong : ChangeSpec := { name := "fnExactShapeBounds", fn := fun _ => fun
  | [d1, d2] => { results := [.lit (.bool false)], args := [d1, d2] }
  | _ => none }
def FnExactShapeBoundsWrongFalsely : Prop := fnExactShapeBoundsRow.holds Try.pinned (OpenSpec.ofChange fnExactShapeBoundsWrong)

/-- 'laws.FnExactShapeHas': WHATEVER THE INPUT: true; the input reads as it did. -/
def fnExactShapeHasSpec : ChangeSpec := { name := "fnExactShapeHas", fn := fun _ => fun
  | [d1, d2, d3] => { results := [.lit (.bool true)], args := [d1, d2, d3] }
  | _ => none }
def fnExactShapeHasRow : OpenClaim := { program := "ytpfedfoiopcilaa", sum := "d83579518a852bde93ba715b0b57405d17592ef0beb64778cd5b5f7f4768a19b", func := "loop.example/parquetry/laws.FnExactShapeHas", spec := "fnExactShapeHas", apart := false }
def FnExactShapeHasSaid : Prop := fnExactShapeHasRow.holds Try.pinned (OpenSpec.ofChange fnExactShapeHasSpec)

/-- ITS FALSE NEIGHBOUR: 'it returns false'. Refute it at one input. -/
def fnExactShapeHasWrong : ChangeSpec := { name := "fnExactShapeHas", fn := fun _ => fun
  | [d1, d2, d3] => { results := [.lit (.bool false)], args := [d1, d2, d3] }
  | _ => none }
def FnExactShapeHasWrongFalsely : Prop := fnExactShapeHasRow.holds Try.pinned (OpenSpec.ofChange fnExactShapeHasWrong)

/-- 'laws.FnExactBoxMeets': WHATEVER THE INPUT: true; the input reads as it did. -/
def fnExactBoxMeetsSpec : ChangeSpec := { name := "fnExactBoxMeets", fn := fun _ => fun
  | [d1, d2] => { results := [.lit (.bool true)], args := [d1, d2] }
  | _ => none }
def fnExactBoxMeetsRow : OpenClaim := { program := "ytpfedfoiopcilaa", sum := "d83579518a852bde93ba715b0b57405d17592ef0beb64778cd5b5f7f4768a19b", func := "loop.example/parquetry/laws.FnExactBoxMeets", spec := "fnExactBoxMeets", apart := false }
def FnExactBoxMeetsSaid : Prop := fnExactBoxMeetsRow.holds Try.pinned (OpenSpec.ofChange fnExactBoxMeetsSpec)

/-- ITS FALSE NEIGHBOUR: 'it returns false'. Refute it at one input. -/
def fnExactBoxMeetsWrong : ChangeSpec := { name := "fnExactBoxMeets", fn := fun _ => fun
  | [d1, d2] => { results := [.lit (.bool false)], args := [d1, d2] }
  | _ => none }
def FnExactBoxMeetsWrongFalsely : Prop := fnExactBoxMeetsRow.holds Try.pinned (OpenSpec.ofChange fnExactBoxMeetsWrong)

/-- 'laws.FnExactBoxBoth': WHATEVER THE INPUT: true; the input reads as it did. -/
def fnExactBoxBothSpec : ChangeSpec := { name := "fnExactBoxBoth", fn := fun _ => fun
  | [d1, d2] => { results := [.lit (.bool true)], args := [d1, d2] }
  | _ => none }
def fnExactBoxBothRow : OpenClaim := { program := "ytpfedfoiopcilaa", sum := "d83579518a852bde93ba715b0b57405d17592ef0beb64778cd5b5f7f4768a19b", func := "loop.example/parquetry/laws.FnExactBoxBoth", spec := "fnExactBoxBoth", apart := false }
def FnExactBoxBothSaid : Prop := fnExactBoxBothRow.holds Try.pinned (OpenSpec.ofChange fnExactBoxBothSpec)

/-- ITS FALSE NEIGHBOUR: 'it returns false'. Refute it at one input. -/
def fnExactBoxBothWrong : ChangeSpec := { name := "fnExactBoxBoth", fn := fun _ => fun
  | [d1, d2] => { results := [.lit (.bool false)], args := [d1, d2] }
  | _ => none }
def FnExactBoxBothWrongFalsely : Prop := fnExactBoxBothRow.holds Try.pinned (OpenSpec.ofChange fnExactBoxBothWrong)

/-- 'laws.FnExactBoxHas': WHATEVER THE INPUT: true; the input reads as it did. -/
def fnExactBoxHasSpec : ChangeSpec := { name := "fnExactBoxHas", fn := fun _ => fun
  | [d1, d2] => { results := [.lit (.bool true)], args := [d1, d2] }
  | _ => none }
def fnExactBoxHasRow : OpenClaim := { program := "ytpfedfoiopcilaa", sum := "d83579518a852bde93ba715b0b57405d17592ef0beb64778cd5b5f7f4768a19b", func := "loop.example/parquetry/laws.FnExactBoxHas", spec := "fnExactBoxHas", apart := false }
def FnExactBoxHasSaid : Prop := fnExactBoxHasRow.holds Try.pinned (OpenSpec.ofChange fnExactBoxHasSpec)

/-- ITS FALSE NEIGHBOUR: 'it returns false'. Refute it at one input. -/
def fnExactBoxHasWrong : ChangeSpec := { name := "fnExactBoxHas", fn := fun _ => fun
  | [d1, d2] => { results := [.lit (.bool false)], args := [d1, d2] }
  | _ => none }
def FnExactBoxHasWrongFalsely : Prop := fnExactBoxHasRow.holds Try.pinned (OpenSpec.ofChange fnExactBoxHasWrong)

/-- 'laws.FnExactBoxNear': WHATEVER THE INPUT: true; the input reads as it did. -/
def fnExactBoxNearSpec : ChangeSpec := { name := "fnExactBoxNear", fn := fun _ => fun
  | [d1, d2] => { results := [.lit (.bool true)], args := [d1, d2] }
  | _ => none }
def fnExactBoxNearRow : OpenClaim := { program := "ytpfedfoiopcilaa", sum := "d83579518a852bde93ba715b0b57405d17592ef0beb64778cd5b5f7f4768a19b", func := "loop.example/parquetry/laws.FnExactBoxNear", spec := "fnExactBoxNear", apart := false }
def FnExactBoxNearSaid : Prop := fnExactBoxNearRow.holds Try.pinned (OpenSpec.ofChange fnExactBoxNearSpec)

/-- ITS FALSE NEIGHBOUR: 'it returns false'. Refute it at one input. -/
def fnExactBoxNearWrong : ChangeSpec := { name := "fnExactBoxNear", fn := fun _ => fun
  | [d1, d2] => { results := [.lit (.bool false)], args := [d1, d2] }
  | _ => none }
def FnExactBoxNearWrongFalsely : Prop := fnExactBoxNearRow.holds Try.pinned (OpenSpec.ofChange fnExactBoxNearWrong)

/- THE SECOND FORM. 'bulk': how many values and letters a reading holds, each counted each time it is reached (what is shared counts as often as it is met; a slice's spare places count too). A statement '..UptoSaid' is the law's where the arguments, and the package variables that the reading takes, are together of bulk at most 1048576: NARROWER than '..Said'. Prove '..Said' where nothing that the law and all that it calls make is longer than what came in: it says more and counts as full. Else prove '..UptoSaid'. A law counts once. -/
mutual
def uptoBulk {H : Type} : DataW H → Nat
  | .lit (.string bytes) => bytes.length + 1
  | .lit _ => 1
  | .nil => 1
  | .ptr d => uptoBulk d + 1
  | .slice elems spare => uptoBulkAll elems + uptoBulkAll spare + 1
  | .agg parts => uptoBulkAll parts + 1
  | .iface _ d => uptoBulk d + 1
  | .map entries => uptoBulkEntries entries + 1
  | .held _ => 1
def uptoBulkAll {H : Type} : List (DataW H) → Nat
  | [] => 0
  | d :: r => uptoBulk d + uptoBulkAll r
def uptoBulkEntries {H : Type} : List (Lit × DataW H) → Nat
  | [] => 0
  | x :: r => uptoBulkEntry x + uptoBulkEntries r
def uptoBulkEntry {H : Type} : Lit × DataW H → Nat
  | (.string bytes, d) => bytes.length + uptoBulk d + 1
  | (_, d) => uptoBulk d + 1
 end
def uptoSmall : (H : Type) → List (DataW H) → Bool := fun _ ds => decide (uptoBulkAll ds ≤ 1048576)
def OpenSpec.upto (s : _root_.Go.ChangeSpec) : _root_.Go.OpenSpec := { _root_.Go.OpenSpec.ofChange s with cond := some uptoSmall }

/-- 'laws.FnVecAdd', WHERE WHAT IT READS IS OF BULK AT MOST 1048576: true; the input reads as it did. -/
def fnVecAddUptoRow : OpenClaim := { program := "ytpfedfoiopcilaa", sum := "d83579518a852bde93ba715b0b57405d17592ef0beb64778cd5b5f7f4768a19b", func := "loop.example/parquetry/laws.FnVecAdd", spec := "fnVecAdd", apart := false, narrowed := true }
def FnVecAddUptoSaid : Prop := fnVecAddUptoRow.holds Try.pinned (OpenSpec.upto fnVecAddSpec)

/-- 'laws.FnVecSub', WHERE WHAT IT READS IS OF BULK AT MOST 1048576: true; the input reads as it did. -/
def fnVecSubUptoRow : OpenClaim := { program := "ytpfedfoiopcilaa", sum := "d83579518a852bde93ba715b0b57405d17592ef0beb64778cd5b5f7f4768a19b", func := "loop.example/parquetry/laws.FnVecSub", spec := "fnVecSub", apart := false, narrowed := true }
def FnVecSubUptoSaid : Prop := fnVecSubUptoRow.holds Try.pinned (OpenSpec.upto fnVecSubSpec)

/-- 'laws.FnVecMul', WHERE WHAT IT READS IS OF BULK AT MOST 1048576: true; the input reads as it did. -/
def fnVecMulUptoRow : OpenClaim := { program := "ytpfedfoiopcilaa", sum := "d83579518a852bde93ba715b0b57405d17592ef0beb64778cd5b5f7f4768a19b", func := "loop.example/parquetry/laws.FnVecMul", spec := "fnVecMul", apart := false, narrowed := true }
def FnVecMulUptoSaid : Prop := fnVecMulUptoRow.holds Try.pinned (OpenSpec.upto fnVecMulSpec)

/-- 'laws.FnVecDot', WHERE WHAT IT READS IS OF BULK AT MOST 1048576: true; the input reads as it did. -/
def fnVecDotUptoRow : OpenClaim := { program := "ytpfedfoiopcilaa", sum := "d83579518a852bde93ba715b0b57405d17592ef0beb64778cd5b5f7f4768a19b", func := "loop.example/parquetry/laws.FnVecDot", spec := "fnVecDot", unfollowed := true, recurses := true, apart := false, narrowed := true }
def FnVecDotUptoSaid : Prop := fnVecDotUptoRow.holds Try.pinned (OpenSpec.upto fnVecDotSpec)

/-- 'laws.FnVecLen', WHERE WHAT IT READS IS OF BULK AT MOST 1048576: true; the input reads as it did. -/
def fnVecLenUptoRow : OpenClaim := { program := "ytpfedfoiopcilaa", sum := "d83579518a852bde93ba715b0b57405d17592ef0beb64778cd5b5f7f4768a19b", func := "loop.example/parquetry/laws.FnVecLen", spec := "fnVecLen", unfollowed := true, recurses := true, apart := false, narrowed := true }
def FnVecLenUptoSaid : Prop := fnVecLenUptoRow.holds Try.pinned (OpenSpec.upto fnVecLenSpec)

/-- 'laws.FnVecUnit', WHERE WHAT IT READS IS OF BULK AT MOST 1048576: true; the input reads as it did. -/
def fnVecUnitUptoRow : OpenClaim := { program := "ytpfedfoiopcilaa", sum := "d83579518a852bde93ba715b0b57405d17592ef0beb64778cd5b5f7f4768a19b", func := "loop.example/parquetry/laws.FnVecUnit", spec := "fnVecUnit", unfollowed := true, recurses := true, apart := false, narrowed := true }
def FnVecUnitUptoSaid : Prop := fnVecUnitUptoRow.holds Try.pinned (OpenSpec.upto fnVecUnitSpec)

/-- 'laws.FnShapeBounds', WHERE WHAT IT READS IS OF BULK AT MOST 1048576: true; the input reads as it did. -/
def fnShapeBoundsUptoRow : OpenClaim := { program := "ytpfedfoiopcilaa", sum := "d83579518a852bde93ba715b0b57405d17592ef0beb64778cd5b5f7f4768a19b", func := "loop.example/parquetry/laws.FnShapeBounds", spec := "fnShapeBounds", unfollowed := true, recurses := true, apart := false, narrowed := true }
def FnShapeBoundsUptoSaid : Prop := fnShapeBoundsUptoRow.holds Try.pinned (OpenSpec.upto fnShapeBoundsSpec)

/-- 'laws.FnShapeHas', WHERE WHAT IT READS IS OF BULK AT MOST 1048576: true; the input reads as it did. -/
def fnShapeHasUptoRow : OpenClaim := { program := "ytpfedfoiopcilaa", sum := "d83579518a852bde93ba715b0b57405d17592ef0beb64778cd5b5f7f4768a19b", func := "loop.example/parquetry/laws.FnShapeHas", spec := "fnShapeHas", unfollowed := true, recurses := true, apart := false, narrowed := true }
def FnShapeHasUptoSaid : Prop := fnShapeHasUptoRow.holds Try.pinned (OpenSpec.upto fnShapeHasSpec)

/-- 'laws.FnBoxMeets', WHERE WHAT IT READS IS OF BULK AT MOST 1048576: true; the input reads as it did. -/
def fnBoxMeetsUptoRow : OpenClaim := { program := "ytpfedfoiopcilaa", sum := "d83579518a852bde93ba715b0b57405d17592ef0beb64778cd5b5f7f4768a19b", func := "loop.example/parquetry/laws.FnBoxMeets", spec := "fnBoxMeets", apart := false, narrowed := true }
def FnBoxMeetsUptoSaid : Prop := fnBoxMeetsUptoRow.holds Try.pinned (OpenSpec.upto fnBoxMeetsSpec)

/-- 'laws.FnBoxBoth', WHERE WHAT IT READS IS OF BULK AT MOST 1048576: true; the input reads as it did. -/
def fnBoxBothUptoRow : OpenClaim := { program := "ytpfedfoiopcilaa", sum := "d83579518a852bde93ba715b0b57405d17592ef0beb64778cd5b5f7f4768a19b", func := "loop.example/parquetry/laws.FnBoxBoth", spec := "fnBoxBoth", apart := false, narrowed := true }
def FnBoxBothUptoSaid : Prop := fnBoxBothUptoRow.holds Try.pinned (OpenSpec.upto fnBoxBothSpec)

/-- 'laws.FnBoxHas', WHERE WHAT IT READS IS OF BULK AT MOST 1048576: true; the input reads as it did. -/
def fnBoxHasUptoRow : OpenClaim := { program := "ytpfedfoiopcilaa", sum := "d83579518a852bde93ba715b0b57405d17592ef0beb64778cd5b5f7f4768a19b", func := "loop.example/parquetry/laws.FnBoxHas", spec := "fnBoxHas", apart := false, narrowed := true }
def FnBoxHasUptoSaid : Prop := fnBoxHasUptoRow.holds Try.pinned (OpenSpec.upto fnBoxHasSpec)

/-- 'laws.FnBoxNear', WHERE WHAT IT READS IS OF BULK AT MOST 1048576: true; the input reads as it did. -/
def fnBoxNearUptoRow : OpenClaim := { program := "ytpfedfoiopcilaa", sum := "d83579518a852bde93ba715b0b57405d17592ef0beb64778cd5b5f7f4768a19b", func := "loop.example/parquetry/laws.FnBoxNear", spec := "fnBoxNear", apart := false, narrowed := true }
def FnBoxNearUptoSaid : Prop := fnBoxNearUptoRow.holds Try.pinned (OpenSpec.upto fnBoxNearSpec)

/-- 'laws.FnExactShapeBounds', WHERE WHAT IT READS IS OF BULK AT MOST 1048576: true; the input reads as it did. -/
def fnExactShapeBoundsUptoRow : OpenClaim := { program := "ytpfedfoiopcilaa", sum := "d83579518a852bde93ba715b0b57405d17592ef0beb64778cd5b5f7f4768a19b", func := "loop.example/parquetry/laws.FnExactShapeBounds", spec := "fnExactShapeBounds", unfollowed := true, recurses := true, apart := false, narrowed := true }
def FnExactShapeBoundsUptoSaid : Prop := fnExactShapeBoundsUptoRow.holds Try.pinned (OpenSpec.upto fnExactShapeBoundsSpec)

/-- 'laws.FnExactShapeHas', WHERE WHAT IT READS IS OF BULK AT MOST 1048576: true; the input reads as it did. -/
def fnExactShapeHasUptoRow : OpenClaim := { program := "ytpfedfoiopcilaa", sum := "d83579518a852bde93ba715b0b57405d17592ef0beb64778cd5b5f7f4768a19b", func := "loop.example/parquetry/laws.FnExactShapeHas", spec := "fnExactShapeHas", apart := false, narrowed := true }
def FnExactShapeHasUptoSaid : Prop := fnExactShapeHasUptoRow.holds Try.pinned (OpenSpec.upto fnExactShapeHasSpec)

/-- 'laws.FnExactBoxMeets', WHERE WHAT IT READS IS OF BULK AT MOST 1048576: true; the input reads as it did. -/
def fnExactBoxMeetsUptoRow : OpenClaim := { program := "ytpfedfoiopcilaa", sum := "d83579518a852bde93ba715b0b57405d17592ef0beb64778cd5b5f7f4768a19b", func := "loop.example/parquetry/laws.FnExactBoxMeets", spec := "fnExactBoxMeets", apart := false, narrowed := true }
def FnExactBoxMeetsUptoSaid : Prop := fnExactBoxMeetsUptoRow.holds Try.pinned (OpenSpec.upto fnExactBoxMeetsSpec)

/-- 'laws.FnExactBoxBoth', WHERE WHAT IT READS IS OF BULK AT MOST 1048576: true; the input reads as it did. -/
def fnExactBoxBothUptoRow : OpenClaim := { program := "ytpfedfoiopcilaa", sum := "d83579518a852bde93ba715b0b57405d17592ef0beb64778cd5b5f7f4768a19b", func := "loop.example/parquetry/laws.FnExactBoxBoth", spec := "fnExactBoxBoth", apart := false, narrowed := true }
def FnExactBoxBothUptoSaid : Prop := fnExactBoxBothUptoRow.holds Try.pinned (OpenSpec.upto fnExactBoxBothSpec)

/-- 'laws.FnExactBoxHas', WHERE WHAT IT READS IS OF BULK AT MOST 1048576: true; the input reads as it did. -/
def fnExactBoxHasUptoRow : OpenClaim := { program := "ytpfedfoiopcilaa", sum := "d83579518a852bde93ba715b0b57405d17592ef0beb64778cd5b5f7f4768a19b", func := "loop.example/parquetry/laws.FnExactBoxHas", spec := "fnExactBoxHas", apart := false, narrowed := true }
def FnExactBoxHasUptoSaid : Prop := fnExactBoxHasUptoRow.holds Try.pinned (OpenSpec.upto fnExactBoxHasSpec)

/-- 'laws.FnExactBoxNear', WHERE WHAT IT READS IS OF BULK AT MOST 1048576: true; the input reads as it did. -/
def fnExactBoxNearUptoRow : OpenClaim := { program := "ytpfedfoiopcilaa", sum := "d83579518a852bde93ba715b0b57405d17592ef0beb64778cd5b5f7f4768a19b", func := "loop.example/parquetry/laws.FnExactBoxNear", spec := "fnExactBoxNear", apart := false, narrowed := true }
def FnExactBoxNearUptoSaid : Prop := fnExactBoxNearUptoRow.holds Try.pinned (OpenSpec.upto fnExactBoxNearSpec)

end Rows
end Go.Proofs.Ytpfedfoiopcilaa
