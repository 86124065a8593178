/-
  No cell of these rows narrows 'for every input' (looked for: loops, veiled, ifaces, maps, wideKeys, modest, calm, conditions, laid).
  DERIVED. THE GIVEN ROWS OF THIS SEAT. 3 by the template 'for every input the law returns true; each argument reads behind the call as it read before'; 0 by the template 'total and deterministic' (their statements: YtlbpmmjckoaleaaGreatTotals.lean).
  GIVEN WITH THE SEED: the statements are not yours to turn. If you find one false, say at which input.
  Laid BY PROGRAM, IN A SANDBOX (cutbox-rows.mjs): the forced cells as the released guide's own fill.sh prints them over the translation ea70d92668b8679b… (all of the seat's roots in one cut). By AI agents, Wed Nov 11 2026. No macro, syntax, notation, axiom, sorry.
-/
import Derived.Test.YtlbpmmjckoaleaaGreatChecked
import GoSem.Claim
import GoSem.ClaimJoined
import GoSem.ClaimMapViews
import Derived.JoinedTies
import Derived.KernelRfl
namespace Go.Proofs.YtlbpmmjckoaleaaGreat
/- THE CELL 'sum', in the pinned program and in every row, IS THE sha256 OF THE DUMP (.gsa) THAT YtlbpmmjckoaleaaGreatProg.lean LOADS. Nothing in Lean hashes anything: it is a label: what it is worth is what the hold of that sum in a sandbox is worth. -/
noncomputable def Tryz.pinned : Pinned := { name := "ytlbpmmjckoaleaagreat", sum := "ea70d92668b8679b75efec5f2a0751dd0d8f8c5989438a0a46a5d224cc119de8", checked := Tryz.checked }
namespace Rows
def none {H : Type} : Left H := { results := [], args := [] }

/-- 'laws.FnExactGroups': WHATEVER THE INPUT: true; the input reads as it did. -/
def fnExactGroupsSpec : ChangeSpec := { name := "fnExactGroups", fn := fun _ => fun
  | [d] => { results := [.lit (.bool true)], args := [d] }
  | _ => none }
def fnExactGroupsRow : OpenClaim := { program := "ytlbpmmjckoaleaagreat", sum := "ea70d92668b8679b75efec5f2a0751dd0d8f8c5989438a0a46a5d224cc119de8", func := "loop.example/parquetry/laws.FnExactGroups", spec := "fnExactGroups", unfollowed := true, recurses := true, apart := false }
def FnExactGroupsSaid : Prop := fnExactGroupsRow.holds Tryz.pinned (OpenSpec.ofChange fnExactGroupsSpec)

/-- ITS FALSE NEIGHBOUR: 'it returns false'. Refute it at one input. -/
def fnExactGroupsWrong : ChangeSpec := { name := "fnExactGroups", fn := fun _ => fun
  | [d] => { results := [.lit (.bool false)], args := [d] }
  | _ => none }
def FnExactGroupsWrongFalsely : Prop := fnExactGroupsRow.holds Tryz.pinned (OpenSpec.ofChange fnExactGroupsWrong)

/-- 'laws.FnExactGroupAwake': WHATEVER THE INPUT: true; the input reads as it did. -/
def fnExactGroupAwakeSpec : ChangeSpec := { name := "fnExactGroupAwake", fn := fun _ => fun
  | [d] => { results := [.lit (.bool true)], args := [d] }
  | _ => none }
def fnExactGroupAwakeRow : OpenClaim := { program := "ytlbpmmjckoaleaagreat", sum := "ea70d92668b8679b75efec5f2a0751dd0d8f8c5989438a0a46a5d224cc119de8", func := "loop.example/parquetry/laws.FnExactGroupAwake", spec := "fnExactGroupAwake", unfollowed := true, recurses := true, apart := false }
def FnExactGroupAwakeSaid : Prop := fnExactGroupAwakeRow.holds Tryz.pinned (OpenSpec.ofChange fnExactGroupAwakeSpec)

/-- ITS FALSE NEIGHBOUR: 'it returns false'. Refute it at one input. -/
def fnExactGroupAwakeWrong : ChangeSpec := { name := "fnExactGroupAwake", fn := fun _ => fun
  | [d] => { results := [.lit (.bool false)], args := [d] }
  | _ => none }
def FnExactGroupAwakeWrongFalsely : Prop := fnExactGroupAwakeRow.holds Tryz.pinned (OpenSpec.ofChange fnExactGroupAwakeWrong)

/-- 'laws.FnExactGroupOf': WHATEVER THE INPUT: true; the input reads as it did. -/
def fnExactGroupOfSpec : ChangeSpec := { name := "fnExactGroupOf", fn := fun _ => fun
  | [d1, d2] => { results := [.lit (.bool true)], args := [d1, d2] }
  | _ => none }
def fnExactGroupOfRow : OpenClaim := { program := "ytlbpmmjckoaleaagreat", sum := "ea70d92668b8679b75efec5f2a0751dd0d8f8c5989438a0a46a5d224cc119de8", func := "loop.example/parquetry/laws.FnExactGroupOf", spec := "fnExactGroupOf", unfollowed := true, recurses := true, apart := false }
def FnExactGroupOfSaid : Prop := fnExactGroupOfRow.holds Tryz.pinned (OpenSpec.ofChange fnExactGroupOfSpec)

/-- ITS FALSE NEIGHBOUR: 'it returns false'. Refute it at one input. -/
def fnExactGroupOfWrong : ChangeSpec := { name := "fnExactGroupOf", fn := fun _ => fun
  | [d1, d2] => { results := [.lit (.bool false)], args := [d1, d2] }
  | _ => none }
def FnExactGroupOfWrongFalsely : Prop := fnExactGroupOfRow.holds Tryz.pinned (OpenSpec.ofChange fnExactGroupOfWrong)

/- THE SECOND FORM. 'bulk': how many values and letters a reading holds, each counted each time it is reached (what is shared counts as often as it is met; a slice's spare places count too). A statement '..UptoSaid' is the law's where the arguments, and the package variables that the reading takes, are together of bulk at most 1048576: NARROWER than '..Said'. Prove '..Said' where nothing that the law and all that it calls make is longer than what came in: it says more and counts as full. Else prove '..UptoSaid'. A law counts once. -/
mutual
def uptoBulk {H : Type} : DataW H → Nat
  | .lit (.string bytes) => bytes.length + 1
  | .lit _ => 1
  | .nil => 1
  | .ptr d => uptoBulk d + 1
  | .slice elems spare => uptoBulkAll elems + uptoBulkAll spare + 1
  | .agg parts => uptoBulkAll parts + 1
  | .iface _ d => uptoBulk d + 1
  | .map entries => uptoBulkEntries entries + 1
  | .held _ => 1
def uptoBulkAll {H : Type} : List (DataW H) → Nat
  | [] => 0
  | d :: r => uptoBulk d + uptoBulkAll r
def uptoBulkEntries {H : Type} : List (Lit × DataW H) → Nat
  | [] => 0
  | x :: r => uptoBulkEntry x + uptoBulkEntries r
def uptoBulkEntry {H : Type} : Lit × DataW H → Nat
  | (.string bytes, d) => bytes.length + uptoBulk d + 1
  | (_, d) => uptoBulk d + 1
 end
def uptoSmall : (H : Type) → List (DataW H) → Bool := fun _ ds => decide (uptoBulkAll ds ≤ 1048576)
def OpenSpec.upto (s : _root_.Go.ChangeSpec) : _root_.Go.OpenSpec := { _root_.Go.OpenSpec.ofChange s with cond := some uptoSmall }

/-- 'laws.FnExactGroups', WHERE WHAT IT READS IS OF BULK AT MOST 1048576: true; the input reads as it did. -/
def fnExactGroupsUptoRow : OpenClaim := { program := "ytlbpmmjckoaleaagreat", sum := "ea70d92668b8679b75efec5f2a0751dd0d8f8c5989438a0a46a5d224cc119de8", func := "loop.example/parquetry/laws.FnExactGroups", spec := "fnExactGroups", unfollowed := true, recurses := true, apart := false, narrowed := true }
def FnExactGroupsUptoSaid : Prop := fnExactGroupsUptoRow.holds Tryz.pinned (OpenSpec.upto fnExactGroupsSpec)

/-- 'laws.FnExactGroupAwake', WHERE WHAT IT READS IS OF BULK AT MOST 1048576: true; the input reads as it did. -/
def fnExactGroupAwakeUptoRow : OpenClaim := { program := "ytlbpmmjckoaleaagreat", sum := "ea70d92668b8679b75efec5f2a0751dd0d8f8c5989438a0a46a5d224cc119de8", func := "loop.example/parquetry/laws.FnExactGroupAwake", spec := "fnExactGroupAwake", unfollowed := true, recurses := true, apart := false, narrowed := true }
def FnExactGroupAwakeUptoSaid : Prop := fnExactGroupAwakeUptoRow.holds Tryz.pinned (OpenSpec.upto fnExactGroupAwakeSpec)

/-- 'laws.FnExactGroupOf', WHERE WHAT IT READS IS OF BULK AT MOST 1048576: true; the input reads as it did. -/
def fnExactGroupOfUptoRow : OpenClaim := { program := "ytlbpmmjckoaleaagreat", sum := "ea70d92668b8679b75efec5f2a0751dd0d8f8c5989438a0a46a5d224cc119de8", func := "loop.example/parquetry/laws.FnExactGroupOf", spec := "fnExactGroupOf", unfollowed := true, recurses := true, apart := false, narrowed := true }
def FnExactGroupOfUptoSaid : Prop := fnExactGroupOfUptoRow.holds Tryz.pinned (OpenSpec.upto fnExactGroupOfSpec)

end Rows
end Go.Proofs.YtlbpmmjckoaleaaGreat
