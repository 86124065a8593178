/-
  No cell of these rows narrows 'for every input' (looked for: loops, veiled, ifaces, maps, wideKeys, modest, calm, conditions, laid).
  DERIVED. THE GIVEN ROWS OF THIS SEAT. 4 by the template 'for every input the law returns true; each argument reads behind the call as it read before'; 0 by the template 'total and deterministic' (their statements: YtgcobcmpkbcfoaaTotals.lean).
  GIVEN WITH THE SEED: the statements are not yours to turn. If you find one false, say at which input.
  Laid BY PROGRAM, IN A SANDBOX (cutbox-rows.mjs): the forced cells as the released guide's own fill.sh prints them over the translation 40115f131bb4b986… (all of the seat's roots in one cut). By AI agents, Wed Nov 11 2026. No macro, syntax, notation, axiom, sorry.
-/
import Derived.Test.YtgcobcmpkbcfoaaChecked
import GoSem.Claim
import GoSem.ClaimJoined
import GoSem.ClaimMapViews
import Derived.JoinedTies
import Derived.KernelRfl
namespace Go.Proofs.Ytgcobcmpkbcfoaa
/- THE CELL 'sum', in the pinned program and in every row, IS THE sha256 OF THE DUMP (.gsa) THAT YtgcobcmpkbcfoaaProg.lean LOADS. Nothing in Lean hashes anything: it is a label: what it is worth is what the hold of that sum in a sandbox is worth. -/
noncomputable def Try.pinned : Pinned := { name := "ytgcobcmpkbcfoaa", sum := "40115f131bb4b986be32d39fc6a8d8e98eb3b3ac1359bbef85ff17dfe4702107", checked := Try.checked }
namespace Rows
def none {H : Type} : Left H := { results := [], args := [] }

/-- 'laws.FnExactWorldOk': WHATEVER THE INPUT: true; the input reads as it did. -/
def fnExactWorldOkSpec : ChangeSpec := { name := "fnExactWorldOk", fn := fun _ => fun
  | [d] => { results := [.lit (.bool true)], args := [d] }
  | _ => none }
def fnExactWorldOkRow : OpenClaim := { program := "ytgcobcmpkbcfoaa", sum := "40115f131bb4b986be32d39fc6a8d8e98eb3b3ac1359bbef85ff17dfe4702107", func := "loop.example/parquetry/laws.FnExactWorldOk", spec := "fnExactWorldOk", unfollowed := true, recurses := true, apart := false }
def FnExactWorldOkSaid : Prop := fnExactWorldOkRow.holds Try.pinned (OpenSpec.ofChange fnExactWorldOkSpec)

/-- ITS FALSE NEIGHBOUR: 'it returns false'. Refute it at one input. -/
def fnExactWorldOkWrong : ChangeSpec := { name := "fnExactWorldOk", fn := fun _ => fun
  | [d] => { results := [.lit (.bool false)], args := [d] }
  | _ => none }
def FnExactWorldOkWrongFalsely : Prop := fnExactWorldOkRow.holds Try.pinned (OpenSpec.ofChange fnExactWorldOkWrong)

/-- 'laws.FnExactWorldAt': WHATEVER THE INPUT: true; the input reads as it did. -/
def fnExactWorldAtSpec : ChangeSpec := { name := "fnExactWorldAt", fn := fun _ => fun
  | [d1, d2] => { results := [.lit (.bool true)], args := [d1, d2] }
  | _ => none }
def fnExactWorldAtRow : OpenClaim := { program := "ytgcobcmpkbcfoaa", sum := "40115f131bb4b986be32d39fc6a8d8e98eb3b3ac1359bbef85ff17dfe4702107", func := "loop.example/parquetry/laws.FnExactWorldAt", spec := "fnExactWorldAt", unfollowed := true, recurses := true, apart := false }
def FnExactWorldAtSaid : Prop := fnExactWorldAtRow.holds Try.pinned (OpenSpec.ofChange fnExactWorldAtSpec)

/-- ITS FALSE NEIGHBOUR: 'it returns false'. Refute it at one input. -/
def fnExactWorldAtWrong : ChangeSpec := { name := "fnExactWorldAt", fn := fun _ => fun
  | [d1, d2] => { results := [.lit (.bool false)], args := [d1, d2] }
  | _ => none }
def FnExactWorldAtWrongFalsely : Prop := fnExactWorldAtRow.holds Try.pinned (OpenSpec.ofChange fnExactWorldAtWrong)

/-- 'laws.FnExactWorldIn': WHATEVER THE INPUT: true; the input reads as it did. -/
def fnExactWorldInSpec : ChangeSpec := { name := "fnExactWorldIn", fn := fun _ => fun
  | [d1, d2] => { results := [.lit (.bool true)], args := [d1, d2] }
  | _ => none }
def fnExactWorldInRow : OpenClaim := { program := "ytgcobcmpkbcfoaa", sum := "40115f131bb4b986be32d39fc6a8d8e98eb3b3ac1359bbef85ff17dfe4702107", func := "loop.example/parquetry/laws.FnExactWorldIn", spec := "fnExactWorldIn", unfollowed := true, recurses := true, apart := false }
def FnExactWorldInSaid : Prop := fnExactWorldInRow.holds Try.pinned (OpenSpec.ofChange fnExactWorldInSpec)

/-- ITS FALSE NEIGHBOUR: 'it returns false'. Refute it at one input. -/
def fnExactWorldInWrong : ChangeSpec := { name := "fnExactWorldIn", fn := fun _ => fun
  | [d1, d2] => { results := [.lit (.bool false)], args := [d1, d2] }
  | _ => none }
def FnExactWorldInWrongFalsely : Prop := fnExactWorldInRow.holds Try.pinned (OpenSpec.ofChange fnExactWorldInWrong)

/-- 'laws.FnExactWorldRay': WHATEVER THE INPUT: true; the input reads as it did. -/
def fnExactWorldRaySpec : ChangeSpec := { name := "fnExactWorldRay", fn := fun _ => fun
  | [d1, d2] => { results := [.lit (.bool true)], args := [d1, d2] }
  | _ => none }
def fnExactWorldRayRow : OpenClaim := { program := "ytgcobcmpkbcfoaa", sum := "40115f131bb4b986be32d39fc6a8d8e98eb3b3ac1359bbef85ff17dfe4702107", func := "loop.example/parquetry/laws.FnExactWorldRay", spec := "fnExactWorldRay", unfollowed := true, recurses := true, apart := false }
def FnExactWorldRaySaid : Prop := fnExactWorldRayRow.holds Try.pinned (OpenSpec.ofChange fnExactWorldRaySpec)

/-- ITS FALSE NEIGHBOUR: 'it returns false'. Refute it at one input. -/
def fnExactWorldRayWrong : ChangeSpec := { name := "fnExactWorldRay", fn := fun _ => fun
  | [d1, d2] => { results := [.lit (.bool false)], args := [d1, d2] }
  | _ => none }
def FnExactWorldRayWrongFalsely : Prop := fnExactWorldRayRow.holds Try.pinned (OpenSpec.ofChange fnExactWorldRayWrong)

/- THE SECOND FORM. 'bulk': how many values and letters a reading holds, each counted each time it is reached (what is shared counts as often as it is met; a slice's spare places count too). A statement '..UptoSaid' is the law's where the arguments, and the package variables that the reading takes, are together of bulk at most 1048576: NARROWER than '..Said'. Prove '..Said' where nothing that the law and all that it calls make is longer than what came in: it says more and counts as full. Else prove '..UptoSaid'. A law counts once. -/
mutual
def uptoBulk {H : Type} : DataW H → Nat
  | .lit (.string bytes) => bytes.length + 1
  | .lit _ => 1
  | .nil => 1
  | .ptr d => uptoBulk d + 1
  | .slice elems spare => uptoBulkAll elems + uptoBulkAll spare + 1
  | .agg parts => uptoBulkAll parts + 1
  | .iface _ d => uptoBulk d + 1
  | .map entries => uptoBulkEntries entries + 1
  | .held _ => 1
def uptoBulkAll {H : Type} : List (DataW H) → Nat
  | [] => 0
  | d :: r => uptoBulk d + uptoBulkAll r
def uptoBulkEntries {H : Type} : List (Lit × DataW H) → Nat
  | [] => 0
  | x :: r => uptoBulkEntry x + uptoBulkEntries r
def uptoBulkEntry {H : Type} : Lit × DataW H → Nat
  | (.string bytes, d) => bytes.length + uptoBulk d + 1
  | (_, d) => uptoBulk d + 1
 end
def uptoSmall : (H : Type) → List (DataW H) → Bool := fun _ ds => decide (uptoBulkAll ds ≤ 1048576)
def OpenSpec.upto (s : _root_.Go.ChangeSpec) : _root_.Go.OpenSpec := { _root_.Go.OpenSpec.ofChange s with cond := some uptoSmall }

/-- 'laws.FnExactWorldOk', WHERE WHAT IT READS IS OF BULK AT MOST 1048576: true; the input reads as it did. -/
def fnExactWorldOkUptoRow : OpenClaim := { program := "ytgcobcmpkbcfoaa", sum := "40115f131bb4b986be32d39fc6a8d8e98eb3b3ac1359bbef85ff17dfe4702107", func := "loop.example/parquetry/laws.FnExactWorldOk", spec := "fnExactWorldOk", unfollowed := true, recurses := true, apart := false, narrowed := true }
def FnExactWorldOkUptoSaid : Prop := fnExactWorldOkUptoRow.holds Try.pinned (OpenSpec.upto fnExactWorldOkSpec)

/-- 'laws.FnExactWorldAt', WHERE WHAT IT READS IS OF BULK AT MOST 1048576: true; the input reads as it did. -/
def fnExactWorldAtUptoRow : OpenClaim := { program := "ytgcobcmpkbcfoaa", sum := "40115f131bb4b986be32d39fc6a8d8e98eb3b3ac1359bbef85ff17dfe4702107", func := "loop.example/parquetry/laws.FnExactWorldAt", spec := "fnExactWorldAt", unfollowed := true, recurses := true, apart := false, narrowed := true }
def FnExactWorldAtUptoSaid : Prop := fnExactWorldAtUptoRow.holds Try.pinned (OpenSpec.upto fnExactWorldAtSpec)

/-- 'laws.FnExactWorldIn', WHERE WHAT IT READS IS OF BULK AT MOST 1048576: true; the input reads as it did. -/
def fnExactWorldInUptoRow : OpenClaim := { program := "ytgcobcmpkbcfoaa", sum := "40115f131bb4b986be32d39fc6a8d8e98eb3b3ac1359bbef85ff17dfe4702107", func := "loop.example/parquetry/laws.FnExactWorldIn", spec := "fnExactWorldIn", unfollowed := true, recurses := true, apart := false, narrowed := true }
def FnExactWorldInUptoSaid : Prop := fnExactWorldInUptoRow.holds Try.pinned (OpenSpec.upto fnExactWorldInSpec)

/-- 'laws.FnExactWorldRay', WHERE WHAT IT READS IS OF BULK AT MOST 1048576: true; the input reads as it did. -/
def fnExactWorldRayUptoRow : OpenClaim := { program := "ytgcobcmpkbcfoaa", sum := "40115f131bb4b986be32d39fc6a8d8e98eb3b3ac1359bbef85ff17dfe4702107", func := "loop.example/parquetry/laws.FnExactWorldRay", spec := "fnExactWorldRay", unfollowed := true, recurses := true, apart := false, narrowed := true }
def FnExactWorldRayUptoSaid : Prop := fnExactWorldRayUptoRow.holds Try.pinned (OpenSpec.upto fnExactWorldRaySpec)

end Rows
end Go.Proofs.Ytgcobcmpkbcfoaa
