/-
  No cell of these rows narrows 'for every input' (looked for: loops, veiled, ifaces, maps, wideKeys, modest, calm, conditions, laid).
  DERIVED. THE GIVEN ROWS OF THIS SEAT. 9 by the template 'for every input the law returns true; each argument reads behind the call as it read before'; 0 by the template 'total and deterministic' (their statements: YtbaaidafgdhpeaaTotals.lean).
  GIVEN WITH THE SEED: the statements are not yours to turn. If you find one false, say at which input.
  Laid BY PROGRAM, IN A SANDBOX (cutbox-rows.mjs): the forced cells as the released guide's own fill.sh prints them over the translation 50781aa581d1fa8c… (all of the seat's roots in one cut). By AI agents, Wed Nov 11 2026. No macro, syntax, notation, axiom, sorry.
-/
import Derived.Test.YtbaaidafgdhpeaaChecked
import GoSem.Claim
import GoSem.ClaimJoined
import GoSem.ClaimMapViews
import Derived.JoinedTies
import Derived.KernelRfl
namespace Go.Proofs.Ytbaaidafgdhpeaa
/- THE CELL 'sum', in the pinned program and in every row, IS THE sha256 OF THE DUMP (.gsa) THAT YtbaaidafgdhpeaaProg.lean LOADS. Nothing in Lean hashes anything: it is a label: what it is worth is what the hold of that sum in a sandbox is worth. -/
noncomputable def Try.pinned : Pinned := { name := "ytbaaidafgdhpeaa", sum := "50781aa581d1fa8ceb6a0b190a265fbb20cbb212a3a356ecdf9fa5ee88a9f388", checked := Try.checked }
namespace Rows
def none {H : Type} : Left H := { results := [], args := [] }

/-- 'laws.FnVecDot': WHATEVER THE INPUT: true; the input reads as it did. -/
def fnVecDotSpec : ChangeSpec := { name := "fnVecDot", fn := fun _ => fun
  | [d] => { results := [.lit (.bool true)], args := [d] }
  | _ => none }
def fnVecDotRow : OpenClaim := { program := "ytbaaidafgdhpeaa", sum := "50781aa581d1fa8ceb6a0b190a265fbb20cbb212a3a356ecdf9fa5ee88a9f388", func := "loop.example/parquetry/laws.FnVecDot", spec := "fnVecDot", unfollowed := true, recurses := true, apart := false }
def FnVecDotSaid : Prop := fnVecDotRow.holds Try.pinned (OpenSpec.ofChange fnVecDotSpec)

/-- ITS FALSE NEIGHBOUR: 'it returns false'. Refute it at one input. -/
def fnVecDotWrong : ChangeSpec := { name := "fnVecDot", fn := fun _ => fun
  | [d] => { results := [.lit (.bool false)], args := [d] }
  | _ => none }
def FnVecDotWrongFalsely : Prop := fnVecDotRow.holds Try.pinned (OpenSpec.ofChange fnVecDotWrong)

/-- 'laws.FnExactVecDot': WHATEVER THE INPUT: true; the input reads as it did. -/
def fnExactVecDotSpec : ChangeSpec := { name := "fnExactVecDot", fn := fun _ => fun
  | [d1, d2] => { results := [.lit (.bool true)], args := [d1, d2] }
  | _ => none }
def fnExactVecDotRow : OpenClaim := { program := "ytbaaidafgdhpeaa", sum := "50781aa581d1fa8ceb6a0b190a265fbb20cbb212a3a356ecdf9fa5ee88a9f388", func := "loop.example/parquetry/laws.FnExactVecDot", spec := "fnExactVecDot", apart := false }
def FnExactVecDotSaid : Prop := fnExactVecDotRow.holds Try.pinned (OpenSpec.ofChange fnExactVecDotSpec)

/-- ITS FALSE NEIGHBOUR: 'it returns false'. Refute it at one input. -/
def fnExactVecDotWrong : ChangeSpec := { name := "fnExactVecDot", fn := fun _ => fun
  | [d1, d2] => { results := [.lit (.bool false)], args := [d1, d2] }
  | _ => none }
def FnExactVecDotWrongFalsely : Prop := fnExactVecDotRow.holds Try.pinned (OpenSpec.ofChange fnExactVecDotWrong)

/-- 'laws.FnShapeBounds': WHATEVER THE INPUT: true; the input reads as it did. -/
def fnShapeBoundsSpec : ChangeSpec := { name := "fnShapeBounds", fn := fun _ => fun
  | [d] => { results := [.lit (.bool true)], args := [d] }
  | _ => none }
def fnShapeBoundsRow : OpenClaim := { program := "ytbaaidafgdhpeaa", sum := "50781aa581d1fa8ceb6a0b190a265fbb20cbb212a3a356ecdf9fa5ee88a9f388", func := "loop.example/parquetry/laws.FnShapeBounds", spec := "fnShapeBounds", unfollowed := true, recurses := true, apart := false }
def FnShapeBoundsSaid : Prop := fnShapeBoundsRow.holds Try.pinned (OpenSpec.ofChange fnShapeBoundsSpec)

/-- ITS FALSE NEIGHBOUR: 'it returns false'. Refute it at one input. -/
def fnShapeBoundsWrong : ChangeSpec := { name := "fnShapeBounds", fn := fun _ => fun
  | [d] => { results := [.lit (.bool false)], args := [d] }
  | _ => none }
def FnShapeBoundsWrongFalsely : Prop := fnShapeBoundsRow.holds Try.pinned (OpenSpec.ofChange fnShapeBoundsWrong)

/-- 'laws.FnShapeHas': WHATEVER THE INPUT: true; the input reads as it did. -/
def fnShapeHasSpec : ChangeSpec := { name := "fnShapeHas", fn := fun _ => fun
  | [d] => { results := [.lit (.bool true)], args := [d] }
  | _ => none }
def fnShapeHasRow : OpenClaim := { program := "ytbaaidafgdhpeaa", sum := "50781aa581d1fa8ceb6a0b190a265fbb20cbb212a3a356ecdf9fa5ee88a9f388", func := "loop.example/parquetry/laws.FnShapeHas", spec := "fnShapeHas", unfollowed := true, recurses := true, apart := false }
def FnShapeHasSaid : Prop := fnShapeHasRow.holds Try.pinned (OpenSpec.ofChange fnShapeHasSpec)

/-- ITS FALSE NEIGHBOUR: 'it returns false'. Refute it at one input. -/
def fnShapeHasWrong : ChangeSpec := { name := "fnShapeHas", fn := fun _ => fun
  | [d] => { results := [.lit (.bool false)], args := [d] }
  | _ => none }
def FnShapeHasWrongFalsely : Prop := fnShapeHasRow.holds Try.pinned (OpenSpec.ofChange fnShapeHasWrong)

/-- 'laws.FnBoxMeets': WHATEVER THE INPUT: true; the input reads as it did. -/
def fnBoxMeetsSpec : ChangeSpec := { name := "fnBoxMeets", fn := fun _ => fun
  | [d] => { results := [.lit (.bool true)], args := [d] }
  | _ => none }
def fnBoxMeetsRow : OpenClaim := { program := "ytbaaidafgdhpeaa", sum := "50781aa581d1fa8ceb6a0b190a265fbb20cbb212a3a356ecdf9fa5ee88a9f388", func := "loop.example/parquetry/laws.FnBoxMeets", spec := "fnBoxMeets", apart := false }
def FnBoxMeetsSaid : Prop := fnBoxMeetsRow.holds Try.pinned (OpenSpec.ofChange fnBoxMeetsSpec)

/-- ITS FALSE NEIGHBOUR: 'it returns false'. Refute it at one input. -/
def fnBoxMeetsWrong : ChangeSpec := { name := "fnBoxMeets", fn := fun _ => fun
  | [d] => { results := [.lit (.bool false)], args := [d] }
  | _ => none }
def FnBoxMeetsWrongFalsely : Prop := fnBoxMeetsRow.holds Try.pinned (OpenSpec.ofChange fnBoxMeetsWrong)

/-- 'laws.FnBoxBoth': WHATEVER THE INPUT: true; the input reads as it did. -/
def fnBoxBothSpec : ChangeSpec := { name := "fnBoxBoth", fn := fun _ => fun
  | [d] => { results := [.lit (.bool true)], args := [d] }
  | _ => none }
def fnBoxBothRow : OpenClaim := { program := "ytbaaidafgdhpeaa", sum := "50781aa581d1fa8ceb6a0b190a265fbb20cbb212a3a356ecdf9fa5ee88a9f388", func := "loop.example/parquetry/laws.FnBoxBoth", spec := "fnBoxBoth", apart := false }
def FnBoxBothSaid : Prop := fnBoxBothRow.holds Try.pinned (OpenSpec.ofChange fnBoxBothSpec)

/-- ITS FALSE NEIGHBOUR: 'it returns false'. Refute it at one input. -/
def fnBoxBothWrong : ChangeSpec := { name := "fnBoxBoth", fn := fun _ => fun
  | [d] => { results := [.lit (.bool false)], args := [d] }
  | _ => none }
def FnBoxBothWrongFalsely : Prop := fnBoxBothRow.holds Try.pinned (OpenSpec.ofChange fnBoxBothWrong)

/-- 'laws.FnBoxHas': WHATEVER THE INPUT: true; the input reads as it did. -/
def fnBoxHasSpec : ChangeSpec := { name := "fnBoxHas", fn := fun _ => fun
  | [d1, d2] => { results := [.lit (.bool true)], args := [d1, d2] }
  | _ => none }
def fnBoxHasRow : OpenClaim := { program := "ytbaaidafgdhpeaa", sum := "50781aa581d1fa8ceb6a0b190a265fbb20cbb212a3a356ecdf9fa5ee88a9f388", func := "loop.example/parquetry/laws.FnBoxHas", spec := "fnBoxHas", apart := false }
def FnBoxHasSaid : Prop := fnBoxHasRow.holds Try.pinned (OpenSpec.ofChange fnBoxHasSpec)

/-- ITS FALSE NEIGHBOUR: 'it returns false'. Refute it at one input. -/
def fnBoxHasWrong : ChangeSpec := { name := "fnBoxHas", fn := fun _ => fun
  | [d1, d2] => { results := [.lit (.bool false)], args := [d1, d2] }
  | _ => none }
def FnBoxHasWrongFalsely : Prop := fnBoxHasRow.holds Try.pinned (OpenSpec.ofChange fnBoxHasWrong)

/-- 'laws.FnBoxNear': WHATEVER THE INPUT: true; the input reads as it did. -/
def fnBoxNearSpec : ChangeSpec := { name := "fnBoxNear", fn := fun _ => fun
  | [d] => { results := [.lit (.bool true)], args := [d] }
  | _ => none }
def fnBoxNearRow : OpenClaim := { program := "ytbaaidafgdhpeaa", sum := "50781aa581d1fa8ceb6a0b190a265fbb20cbb212a3a356ecdf9fa5ee88a9f388", func := "loop.example/parquetry/laws.FnBoxNear", spec := "fnBoxNear", apart := false }
def FnBoxNearSaid : Prop := fnBoxNearRow.holds Try.pinned (OpenSpec.ofChange fnBoxNearSpec)

/-- ITS FALSE NEIGHBOUR: 'it returns false'. Refute it at one input. -/
def fnBoxNearWrong : ChangeSpec := { name := "fnBoxNear", fn := fun _ => fun
  | [d] => { results := [.lit (.bool false)], args := [d] }
  | _ => none }
def FnBoxNearWrongFalsely : Prop := fnBoxNearRow.holds Try.pinned (OpenSpec.ofChange fnBoxNearWrong)

/-- 'laws.FnExactBoxBoth': WHATEVER THE INPUT: true; the input reads as it did. -/
def fnExactBoxBothSpec : ChangeSpec := { name := "fnExactBoxBoth", fn := fun _ => fun
  | [d1, d2] => { results := [.lit (.bool true)], args := [d1, d2] }
  | _ => none }
def fnExactBoxBothRow : OpenClaim := { program := "ytbaaidafgdhpeaa", sum := "50781aa581d1fa8ceb6a0b190a265fbb20cbb212a3a356ecdf9fa5ee88a9f388", func := "loop.example/parquetry/laws.FnExactBoxBoth", spec := "fnExactBoxBoth", apart := false }
def FnExactBoxBothSaid : Prop := fnExactBoxBothRow.holds Try.pinned (OpenSpec.ofChange fnExactBoxBothSpec)

/-- ITS FALSE NEIGHBOUR: 'it returns false'. Refute it at one input. -/
def fnExactBoxBothWrong : ChangeSpec := { name := "fnExactBoxBoth", fn := fun _ => fun
  | [d1, d2] => { results := [.lit (.bool false)], args := [d1, d2] }
  | _ => none }
def FnExactBoxBothWrongFalsely : Prop := fnExactBoxBothRow.holds Try.pinned (OpenSpec.ofChange fnExactBoxBothWrong)

/- THE SECOND FORM. 'bulk': how many values and letters a reading holds, each counted each time it is reached (what is shared counts as often as it is met; a slice's spare places count too). A statement '..UptoSaid' is the law's where the arguments, and the package variables that the reading takes, are together of bulk at most 1048576: NARROWER than '..Said'. Prove '..Said' where nothing that the law and all that it calls make is longer than what came in: it says more and counts as full. Else prove '..UptoSaid'. A law counts once. -/
mutual
def uptoBulk {H : Type} : DataW H → Nat
  | .lit (.string bytes) => bytes.length + 1
  | .lit _ => 1
  | .nil => 1
  | .ptr d => uptoBulk d + 1
  | .slice elems spare => uptoBulkAll elems + uptoBulkAll spare + 1
  | .agg parts => uptoBulkAll parts + 1
  | .iface _ d => uptoBulk d + 1
  | .map entries => uptoBulkEntries entries + 1
  | .held _ => 1
def uptoBulkAll {H : Type} : List (DataW H) → Nat
  | [] => 0
  | d :: r => uptoBulk d + uptoBulkAll r
def uptoBulkEntries {H : Type} : List (Lit × DataW H) → Nat
  | [] => 0
  | x :: r => uptoBulkEntry x + uptoBulkEntries r
def uptoBulkEntry {H : Type} : Lit × DataW H → Nat
  | (.string bytes, d) => bytes.length + uptoBulk d + 1
  | (_, d) => uptoBulk d + 1
 end
def uptoSmall : (H : Type) → List (DataW H) → Bool := fun _ ds => decide (uptoBulkAll ds ≤ 1048576)
def OpenSpec.upto (s : _root_.Go.ChangeSpec) : _root_.Go.OpenSpec := { _root_.Go.OpenSpec.ofChange s with cond := some uptoSmall }

/-- 'laws.FnVecDot', WHERE WHAT IT READS IS OF BULK AT MOST 1048576: true; the input reads as it did. -/
def fnVecDotUptoRow : OpenClaim := { program := "ytbaaidafgdhpeaa", sum := "50781aa581d1fa8ceb6a0b190a265fbb20cbb212a3a356ecdf9fa5ee88a9f388", func := "loop.example/parquetry/laws.FnVecDot", spec := "fnVecDot", unfollowed := true, recurses := true, apart := false, narrowed := true }
def FnVecDotUptoSaid : Prop := fnVecDotUptoRow.holds Try.pinned (OpenSpec.upto fnVecDotSpec)

/-- 'laws.FnExactVecDot', WHERE WHAT IT READS IS OF BULK AT MOST 1048576: true; the input reads as it did. -/
def fnExactVecDotUptoRow : OpenClaim := { program := "ytbaaidafgdhpeaa", sum := "50781aa581d1fa8ceb6a0b190a265fbb20cbb212a3a356ecdf9fa5ee88a9f388", func := "loop.example/parquetry/laws.FnExactVecDot", spec := "fnExactVecDot", apart := false, narrowed := true }
def FnExactVecDotUptoSaid : Prop := fnExactVecDotUptoRow.holds Try.pinned (OpenSpec.upto fnExactVecDotSpec)

/-- 'laws.FnShapeBounds', WHERE WHAT IT READS IS OF BULK AT MOST 1048576: true; the input reads as it did. -/
def fnShapeBoundsUptoRow : OpenClaim := { program := "ytbaaidafgdhpeaa", sum := "50781aa581d1fa8ceb6a0b190a265fbb20cbb212a3a356ecdf9fa5ee88a9f388", func := "loop.example/parquetry/laws.FnShapeBounds", spec := "fnShapeBounds", unfollowed := true, recurses := true, apart := false, narrowed := true }
def FnShapeBoundsUptoSaid : Prop := fnShapeBoundsUptoRow.holds Try.pinned (OpenSpec.upto fnShapeBoundsSpec)

/-- 'laws.FnShapeHas', WHERE WHAT IT READS IS OF BULK AT MOST 1048576: true; the input reads as it did. -/
def fnShapeHasUptoRow : OpenClaim := { program := "ytbaaidafgdhpeaa", sum := "50781aa581d1fa8ceb6a0b190a265fbb20cbb212a3a356ecdf9fa5ee88a9f388", func := "loop.example/parquetry/laws.FnShapeHas", spec := "fnShapeHas", unfollowed := true, recurses := true, apart := false, narrowed := true }
def FnShapeHasUptoSaid : Prop := fnShapeHasUptoRow.holds Try.pinned (OpenSpec.upto fnShapeHasSpec)

/-- 'laws.FnBoxMeets', WHERE WHAT IT READS IS OF BULK AT MOST 1048576: true; the input reads as it did. -/
def fnBoxMeetsUptoRow : OpenClaim := { program := "ytbaaidafgdhpeaa", sum := "50781aa581d1fa8ceb6a0b190a265fbb20cbb212a3a356ecdf9fa5ee88a9f388", func := "loop.example/parquetry/laws.FnBoxMeets", spec := "fnBoxMeets", apart := false, narrowed := true }
def FnBoxMeetsUptoSaid : Prop := fnBoxMeetsUptoRow.holds Try.pinned (OpenSpec.upto fnBoxMeetsSpec)

/-- 'laws.FnBoxBoth', WHERE WHAT IT READS IS OF BULK AT MOST 1048576: true; the input reads as it did. -/
def fnBoxBothUptoRow : OpenClaim := { program := "ytbaaidafgdhpeaa", sum := "50781aa581d1fa8ceb6a0b190a265fbb20cbb212a3a356ecdf9fa5ee88a9f388", func := "loop.example/parquetry/laws.FnBoxBoth", spec := "fnBoxBoth", apart := false, narrowed := true }
def FnBoxBothUptoSaid : Prop := fnBoxBothUptoRow.holds Try.pinned (OpenSpec.upto fnBoxBothSpec)

/-- 'laws.FnBoxHas', WHERE WHAT IT READS IS OF BULK AT MOST 1048576: true; the input reads as it did. -/
def fnBoxHasUptoRow : OpenClaim := { program := "ytbaaidafgdhpeaa", sum := "50781aa581d1fa8ceb6a0b190a265fbb20cbb212a3a356ecdf9fa5ee88a9f388", func := "loop.example/parquetry/laws.FnBoxHas", spec := "fnBoxHas", apart := false, narrowed := true }
def FnBoxHasUptoSaid : Prop := fnBoxHasUptoRow.holds Try.pinned (OpenSpec.upto fnBoxHasSpec)

/-- 'laws.FnBoxNear', WHERE WHAT IT READS IS OF BULK AT MOST 1048576: true; the input reads as it did. -/
def fnBoxNearUptoRow : OpenClaim := { program := "ytbaaidafgdhpeaa", sum := "50781aa581d1fa8ceb6a0b190a265fbb20cbb212a3a356ecdf9fa5ee88a9f388", func := "loop.example/parquetry/laws.FnBoxNear", spec := "fnBoxNear", apart := false, narrowed := true }
def FnBoxNearUptoSaid : Prop := fnBoxNearUptoRow.holds Try.pinned (OpenSpec.upto fnBoxNearSpec)

/-- 'laws.FnExactBoxBoth', WHERE WHAT IT READS IS OF BULK AT MOST 1048576: true; the input reads as it did. -/
def fnExactBoxBothUptoRow : OpenClaim := { program := "ytbaaidafgdhpeaa", sum := "50781aa581d1fa8ceb6a0b190a265fbb20cbb212a3a356ecdf9fa5ee88a9f388", func := "loop.example/parquetry/laws.FnExactBoxBoth", spec := "fnExactBoxBoth", apart := false, narrowed := true }
def FnExactBoxBothUptoSaid : Prop := fnExactBoxBothUptoRow.holds Try.pinned (OpenSpec.upto fnExactBoxBothSpec)

end Rows
end Go.Proofs.Ytbaaidafgdhpeaa
