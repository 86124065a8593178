/-
  No cell of these rows narrows 'for every input' (looked for: loops, veiled, ifaces, maps, wideKeys, modest, calm, conditions, laid).
  DERIVED. THE GIVEN ROWS OF THIS SEAT. 2 by the template 'for every input the law returns true; each argument reads behind the call as it read before'; 0 by the template 'total and deterministic' (their statements: YthijeiehcdoidaaGreatTotals.lean).
  GIVEN WITH THE SEED: the statements are not yours to turn. If you find one false, say at which input.
  Laid BY PROGRAM, IN A SANDBOX (cutbox-rows.mjs): the forced cells as the released guide's own fill.sh prints them over the translation 6b40bbb466ddefed… (all of the seat's roots in one cut). By AI agents, Wed Nov 11 2026. No macro, syntax, notation, axiom, sorry.
-/
import Derived.Test.YthijeiehcdoidaaGreatChecked
import GoSem.Claim
import GoSem.ClaimJoined
import GoSem.ClaimMapViews
import Derived.JoinedTies
import Derived.KernelRfl
namespace Go.Proofs.YthijeiehcdoidaaGreat
/- THE CELL 'sum', in the pinned program and in every row, IS THE sha256 OF THE DUMP (.gsa) THAT YthijeiehcdoidaaGreatProg.lean LOADS. Nothing in Lean hashes anything: it is a label: what it is worth is what the hold of that sum in a sandbox is worth. -/
noncomputable def Tryz.pinned : Pinned := { name := "ythijeiehcdoidaagreat", sum := "6b40bbb466ddefed1088252b5c56f692c104211497bba002c59f5f5ee5d1de9d", checked := Tryz.checked }
namespace Rows
def none {H : Type} : Left H := { results := [], args := [] }

/-- 'laws.FnWorldRay': WHATEVER THE INPUT: true; the input reads as it did. -/
def fnWorldRaySpec : ChangeSpec := { name := "fnWorldRay", fn := fun _ => fun
  | [d] => { results := [.lit (.bool true)], args := [d] }
  | _ => none }
def fnWorldRayRow : OpenClaim := { program := "ythijeiehcdoidaagreat", sum := "6b40bbb466ddefed1088252b5c56f692c104211497bba002c59f5f5ee5d1de9d", func := "loop.example/parquetry/laws.FnWorldRay", spec := "fnWorldRay", unfollowed := true, recurses := true, apart := false }
def FnWorldRaySaid : Prop := fnWorldRayRow.holds Tryz.pinned (OpenSpec.ofChange fnWorldRaySpec)

/-- ITS FALSE NEIGHBOUR: 'it returns false'. Refute it at one input. -/
def fnWorldRayWrong : ChangeSpec := { name := "fnWorldRay", fn := fun _ => fun
  | [d] => { results := [.lit (.bool false)], args := [d] }
  | _ => none }
def FnWorldRayWrongFalsely : Prop := fnWorldRayRow.holds Tryz.pinned (OpenSpec.ofChange fnWorldRayWrong)

/-- 'laws.FnWorldPut': WHATEVER THE INPUT: true; the input reads as it did. -/
def fnWorldPutSpec : ChangeSpec := { name := "fnWorldPut", fn := fun _ => fun
  | [d] => { results := [.lit (.bool true)], args := [d] }
  | _ => none }
def fnWorldPutRow : OpenClaim := { program := "ythijeiehcdoidaagreat", sum := "6b40bbb466ddefed1088252b5c56f692c104211497bba002c59f5f5ee5d1de9d", func := "loop.example/parquetry/laws.FnWorldPut", spec := "fnWorldPut", inPlace := ["slices.overlaps[loop.example/parquetry/impl.Body]"], unfollowed := true, recurses := true, apart := false }
def FnWorldPutSaid : Prop := fnWorldPutRow.holds Tryz.pinned (OpenSpec.ofChange fnWorldPutSpec)

/-- ITS FALSE NEIGHBOUR: 'it returns false'. Refute it at one input. -/
def fnWorldPutWrong : ChangeSpec := { name := "fnWorldPut", fn := fun _ => fun
  | [d] => { results := [.lit (.bool false)], args := [d] }
  | _ => none }
def FnWorldPutWrongFalsely : Prop := fnWorldPutRow.holds Tryz.pinned (OpenSpec.ofChange fnWorldPutWrong)

/- THE SECOND FORM. 'bulk': how many values and letters a reading holds, each counted each time it is reached (what is shared counts as often as it is met; a slice's spare places count too). A statement '..UptoSaid' is the law's where the arguments, and the package variables that the reading takes, are together of bulk at most 1048576: NARROWER than '..Said'. Prove '..Said' where nothing that the law and all that it calls make is longer than what came in: it says more and counts as full. Else prove '..UptoSaid'. A law counts once. -/
mutual
def uptoBulk {H : Type} : DataW H → Nat
  | .lit (.string bytes) => bytes.length + 1
  | .lit _ => 1
  | .nil => 1
  | .ptr d => uptoBulk d + 1
  | .slice elems spare => uptoBulkAll elems + uptoBulkAll spare + 1
  | .agg parts => uptoBulkAll parts + 1
  | .iface _ d => uptoBulk d + 1
  | .map entries => uptoBulkEntries entries + 1
  | .held _ => 1
def uptoBulkAll {H : Type} : List (DataW H) → Nat
  | [] => 0
  | d :: r => uptoBulk d + uptoBulkAll r
def uptoBulkEntries {H : Type} : List (Lit × DataW H) → Nat
  | [] => 0
  | x :: r => uptoBulkEntry x + uptoBulkEntries r
def uptoBulkEntry {H : Type} : Lit × DataW H → Nat
  | (.string bytes, d) => bytes.length + uptoBulk d + 1
  | (_, d) => uptoBulk d + 1
 end
def uptoSmall : (H : Type) → List (DataW H) → Bool := fun _ ds => decide (uptoBulkAll ds ≤ 1048576)
def OpenSpec.upto (s : _root_.Go.ChangeSpec) : _root_.Go.OpenSpec := { _root_.Go.OpenSpec.ofChange s with cond := some uptoSmall }

/-- 'laws.FnWorldRay', WHERE WHAT IT READS IS OF BULK AT MOST 1048576: true; the input reads as it did. -/
def fnWorldRayUptoRow : OpenClaim := { program := "ythijeiehcdoidaagreat", sum := "6b40bbb466ddefed1088252b5c56f692c104211497bba002c59f5f5ee5d1de9d", func := "loop.example/parquetry/laws.FnWorldRay", spec := "fnWorldRay", unfollowed := true, recurses := true, apart := false, narrowed := true }
def FnWorldRayUptoSaid : Prop := fnWorldRayUptoRow.holds Tryz.pinned (OpenSpec.upto fnWorldRaySpec)

/-- 'laws.FnWorldPut', WHERE WHAT IT READS IS OF BULK AT MOST 1048576: true; the input reads as it did. -/
def fnWorldPutUptoRow : OpenClaim := { program := "ythijeiehcdoidaagreat", sum := "6b40bbb466ddefed1088252b5c56f692c104211497bba002c59f5f5ee5d1de9d", func := "loop.example/parquetry/laws.FnWorldPut", spec := "fnWorldPut", inPlace := ["slices.overlaps[loop.example/parquetry/impl.Body]"], unfollowed := true, recurses := true, apart := false, narrowed := true }
def FnWorldPutUptoSaid : Prop := fnWorldPutUptoRow.holds Tryz.pinned (OpenSpec.upto fnWorldPutSpec)

end Rows
end Go.Proofs.YthijeiehcdoidaaGreat
