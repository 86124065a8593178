/-
  No cell of these rows narrows 'for every input' (looked for: loops, veiled, ifaces, maps, wideKeys, modest, calm, conditions, laid).
  DERIVED. THE GIVEN ROWS OF THIS SEAT. 3 by the template 'for every input the law returns true; each argument reads behind the call as it read before'; 0 by the template 'total and deterministic' (their statements: YtalkkjhehndaoaaGreatTotals.lean).
  GIVEN WITH THE SEED: the statements are not yours to turn. If you find one false, say at which input.
  Laid BY PROGRAM, IN A SANDBOX (cutbox-rows.mjs): the forced cells as the released guide's own fill.sh prints them over the translation 3355a0007820a6de… (all of the seat's roots in one cut). By AI agents, Wed Nov 11 2026. No macro, syntax, notation, axiom, sorry.
-/
import Derived.Test.YtalkkjhehndaoaaGreatChecked
import GoSem.Claim
import GoSem.ClaimJoined
import GoSem.ClaimMapViews
import Derived.JoinedTies
import Derived.KernelRfl
namespace Go.Proofs.YtalkkjhehndaoaaGreat
/- THE CELL 'sum', in the pinned program and in every row, IS THE sha256 OF THE DUMP (.gsa) THAT YtalkkjhehndaoaaGreatProg.lean LOADS. Nothing in Lean hashes anything: it is a label: what it is worth is what the hold of that sum in a sandbox is worth. -/
noncomputable def Tryz.pinned : Pinned := { name := "ytalkkjhehndaoaagreat", sum := "3355a0007820a6deb71817fc6f3a70b7b398871f380138acd0b1f69addaf7d2a", checked := Tryz.checked }
namespace Rows
def none {H : Type} : Left H := { results := [], args := [] }

/-- 'laws.FnGroups': WHATEVER THE INPUT: true; the input reads as it did. -/
def fnGroupsSpec : ChangeSpec := { name := "fnGroups", fn := fun _ => fun
  | [d] => { results := [.lit (.bool true)], args := [d] }
  | _ => none }
def fnGroupsRow : OpenClaim := { program := "ytalkkjhehndaoaagreat", sum := "3355a0007820a6deb71817fc6f3a70b7b398871f380138acd0b1f69addaf7d2a", func := "loop.example/parquetry/laws.FnGroups", spec := "fnGroups", unfollowed := true, recurses := true, apart := false }
def FnGroupsSaid : Prop := fnGroupsRow.holds Tryz.pinned (OpenSpec.ofChange fnGroupsSpec)

/-- ITS FALSE NEIGHBOUR: 'it returns false'. Refute it at one input. -/
def fnGroupsWrong : ChangeSpec := { name := "fnGroups", fn := fun _ => fun
  | [d] => { results := [.lit (.bool false)], args := [d] }
  | _ => none }
def FnGroupsWrongFalsely : Prop := fnGroupsRow.holds Tryz.pinned (OpenSpec.ofChange fnGroupsWrong)

/-- 'laws.FnGroupsLeast': WHATEVER THE INPUT: true; the input reads as it did. -/
def fnGroupsLeastSpec : ChangeSpec := { name := "fnGroupsLeast", fn := fun _ => fun
  | [d] => { results := [.lit (.bool true)], args := [d] }
  | _ => none }
def fnGroupsLeastRow : OpenClaim := { program := "ytalkkjhehndaoaagreat", sum := "3355a0007820a6deb71817fc6f3a70b7b398871f380138acd0b1f69addaf7d2a", func := "loop.example/parquetry/laws.FnGroupsLeast", spec := "fnGroupsLeast", unfollowed := true, recurses := true, apart := false }
def FnGroupsLeastSaid : Prop := fnGroupsLeastRow.holds Tryz.pinned (OpenSpec.ofChange fnGroupsLeastSpec)

/-- ITS FALSE NEIGHBOUR: 'it returns false'. Refute it at one input. -/
def fnGroupsLeastWrong : ChangeSpec := { name := "fnGroupsLeast", fn := fun _ => fun
  | [d] => { results := [.lit (.bool false)], args := [d] }
  | _ => none }
def FnGroupsLeastWrongFalsely : Prop := fnGroupsLeastRow.holds Tryz.pinned (OpenSpec.ofChange fnGroupsLeastWrong)

/-- 'laws.FnGroupAwake': WHATEVER THE INPUT: true; the input reads as it did. -/
def fnGroupAwakeSpec : ChangeSpec := { name := "fnGroupAwake", fn := fun _ => fun
  | [d] => { results := [.lit (.bool true)], args := [d] }
  | _ => none }
def fnGroupAwakeRow : OpenClaim := { program := "ytalkkjhehndaoaagreat", sum := "3355a0007820a6deb71817fc6f3a70b7b398871f380138acd0b1f69addaf7d2a", func := "loop.example/parquetry/laws.FnGroupAwake", spec := "fnGroupAwake", unfollowed := true, recurses := true, apart := false }
def FnGroupAwakeSaid : Prop := fnGroupAwakeRow.holds Tryz.pinned (OpenSpec.ofChange fnGroupAwakeSpec)

/-- ITS FALSE NEIGHBOUR: 'it returns false'. Refute it at one input. -/
def fnGroupAwakeWrong : ChangeSpec := { name := "fnGroupAwake", fn := fun _ => fun
  | [d] => { results := [.lit (.bool false)], args := [d] }
  | _ => none }
def FnGroupAwakeWrongFalsely : Prop := fnGroupAwakeRow.holds Tryz.pinned (OpenSpec.ofChange fnGroupAwakeWrong)

/- THE SECOND FORM. 'bulk': how many values and letters a reading holds, each counted each time it is reached (what is shared counts as often as it is met; a slice's spare places count too). A statement '..UptoSaid' is the law's where the arguments, and the package variables that the reading takes, are together of bulk at most 1048576: NARROWER than '..Said'. Prove '..Said' where nothing that the law and all that it calls make is longer than what came in: it says more and counts as full. Else prove '..UptoSaid'. A law counts once. -/
mutual
def uptoBulk {H : Type} : DataW H → Nat
  | .lit (.string bytes) => bytes.length + 1
  | .lit _ => 1
  | .nil => 1
  | .ptr d => uptoBulk d + 1
  | .slice elems spare => uptoBulkAll elems + uptoBulkAll spare + 1
  | .agg parts => uptoBulkAll parts + 1
  | .iface _ d => uptoBulk d + 1
  | .map entries => uptoBulkEntries entries + 1
  | .held _ => 1
def uptoBulkAll {H : Type} : List (DataW H) → Nat
  | [] => 0
  | d :: r => uptoBulk d + uptoBulkAll r
def uptoBulkEntries {H : Type} : List (Lit × DataW H) → Nat
  | [] => 0
  | x :: r => uptoBulkEntry x + uptoBulkEntries r
def uptoBulkEntry {H : Type} : Lit × DataW H → Nat
  | (.string bytes, d) => bytes.length + uptoBulk d + 1
  | (_, d) => uptoBulk d + 1
 end
def uptoSmall : (H : Type) → List (DataW H) → Bool := fun _ ds => decide (uptoBulkAll ds ≤ 1048576)
def OpenSpec.upto (s : _root_.Go.ChangeSpec) : _root_.Go.OpenSpec := { _root_.Go.OpenSpec.ofChange s with cond := some uptoSmall }

/-- 'laws.FnGroups', WHERE WHAT IT READS IS OF BULK AT MOST 1048576: true; the input reads as it did. -/
def fnGroupsUptoRow : OpenClaim := { program := "ytalkkjhehndaoaagreat", sum := "3355a0007820a6deb71817fc6f3a70b7b398871f380138acd0b1f69addaf7d2a", func := "loop.example/parquetry/laws.FnGroups", spec := "fnGroups", unfollowed := true, recurses := true, apart := false, narrowed := true }
def FnGroupsUptoSaid : Prop := fnGroupsUptoRow.holds Tryz.pinned (OpenSpec.upto fnGroupsSpec)

/-- 'laws.FnGroupsLeast', WHERE WHAT IT READS IS OF BULK AT MOST 1048576: true; the input reads as it did. -/
def fnGroupsLeastUptoRow : OpenClaim := { program := "ytalkkjhehndaoaagreat", sum := "3355a0007820a6deb71817fc6f3a70b7b398871f380138acd0b1f69addaf7d2a", func := "loop.example/parquetry/laws.FnGroupsLeast", spec := "fnGroupsLeast", unfollowed := true, recurses := true, apart := false, narrowed := true }
def FnGroupsLeastUptoSaid : Prop := fnGroupsLeastUptoRow.holds Tryz.pinned (OpenSpec.upto fnGroupsLeastSpec)

/-- 'laws.FnGroupAwake', WHERE WHAT IT READS IS OF BULK AT MOST 1048576: true; the input reads as it did. -/
def fnGroupAwakeUptoRow : OpenClaim := { program := "ytalkkjhehndaoaagreat", sum := "3355a0007820a6deb71817fc6f3a70b7b398871f380138acd0b1f69addaf7d2a", func := "loop.example/parquetry/laws.FnGroupAwake", spec := "fnGroupAwake", unfollowed := true, recurses := true, apart := false, narrowed := true }
def FnGroupAwakeUptoSaid : Prop := fnGroupAwakeUptoRow.holds Tryz.pinned (OpenSpec.upto fnGroupAwakeSpec)

end Rows
end Go.Proofs.YtalkkjhehndaoaaGreat
