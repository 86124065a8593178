/-
  No cell of these rows narrows 'for every input' (looked for: loops, veiled, ifaces, maps, wideKeys, modest, calm, conditions, laid).
  DERIVED. THE GIVEN ROWS OF THIS SEAT. 6 by the template 'for every input the law returns true; each argument reads behind the call as it read before'; 0 by the template 'total and deterministic' (their statements: YtbngdlbecdloiaaTotals.lean).
  GIVEN WITH THE SEED: the statements are not yours to turn. If you find one false, say at which input.
  Laid BY PROGRAM, IN A SANDBOX (cutbox-rows.mjs): the forced cells as the released guide's own fill.sh prints them over the translation ce0930b99d0ae3e8… (all of the seat's roots in one cut). By AI agents, Wed Nov 11 2026. No macro, syntax, notation, axiom, sorry.
-/
import Derived.Test.YtbngdlbecdloiaaChecked
import GoSem.Claim
import GoSem.ClaimJoined
import GoSem.ClaimMapViews
import Derived.JoinedTies
import Derived.KernelRfl
namespace Go.Proofs.Ytbngdlbecdloiaa
/- THE CELL 'sum', in the pinned program and in every row, IS THE sha256 OF THE DUMP (.gsa) THAT YtbngdlbecdloiaaProg.lean LOADS. Nothing in Lean hashes anything: it is a label: what it is worth is what the hold of that sum in a sandbox is worth. -/
noncomputable def Try.pinned : Pinned := { name := "ytbngdlbecdloiaa", sum := "ce0930b99d0ae3e83dc4242910ce810f071dd5dfa9b0a52771bd926371ebf3b3", checked := Try.checked }
namespace Rows
def none {H : Type} : Left H := { results := [], args := [] }

/-- 'laws.FnBroadPut': WHATEVER THE INPUT: true; the input reads as it did. -/
def fnBroadPutSpec : ChangeSpec := { name := "fnBroadPut", fn := fun _ => fun
  | [d] => { results := [.lit (.bool true)], args := [d] }
  | _ => none }
def fnBroadPutRow : OpenClaim := { program := "ytbngdlbecdloiaa", sum := "ce0930b99d0ae3e83dc4242910ce810f071dd5dfa9b0a52771bd926371ebf3b3", func := "loop.example/parquetry/laws.FnBroadPut", spec := "fnBroadPut", unfollowed := true, recurses := true, apart := false }
def FnBroadPutSaid : Prop := fnBroadPutRow.holds Try.pinned (OpenSpec.ofChange fnBroadPutSpec)

/-- ITS FALSE NEIGHBOUR: 'it returns false'. Refute it at one input. -/
def fnBroadPutWrong : ChangeSpec := { name := "fnBroadPut", fn := fun _ => fun
  | [d] => { results := [.lit (.bool false)], args := [d] }
  | _ => none }
def FnBroadPutWrongFalsely : Prop := fnBroadPutRow.holds Try.pinned (OpenSpec.ofChange fnBroadPutWrong)

/-- 'laws.FnBroadGone': WHATEVER THE INPUT: true; the input reads as it did. -/
def fnBroadGoneSpec : ChangeSpec := { name := "fnBroadGone", fn := fun _ => fun
  | [d] => { results := [.lit (.bool true)], args := [d] }
  | _ => none }
def fnBroadGoneRow : OpenClaim := { program := "ytbngdlbecdloiaa", sum := "ce0930b99d0ae3e83dc4242910ce810f071dd5dfa9b0a52771bd926371ebf3b3", func := "loop.example/parquetry/laws.FnBroadGone", spec := "fnBroadGone", unfollowed := true, recurses := true, apart := false }
def FnBroadGoneSaid : Prop := fnBroadGoneRow.holds Try.pinned (OpenSpec.ofChange fnBroadGoneSpec)

/-- ITS FALSE NEIGHBOUR: 'it returns false'. Refute it at one input. -/
def fnBroadGoneWrong : ChangeSpec := { name := "fnBroadGone", fn := fun _ => fun
  | [d] => { results := [.lit (.bool false)], args := [d] }
  | _ => none }
def FnBroadGoneWrongFalsely : Prop := fnBroadGoneRow.holds Try.pinned (OpenSpec.ofChange fnBroadGoneWrong)

/-- 'laws.FnBroadPairs': WHATEVER THE INPUT: true; the input reads as it did. -/
def fnBroadPairsSpec : ChangeSpec := { name := "fnBroadPairs", fn := fun _ => fun
  | [d] => { results := [.lit (.bool true)], args := [d] }
  | _ => none }
def fnBroadPairsRow : OpenClaim := { program := "ytbngdlbecdloiaa", sum := "ce0930b99d0ae3e83dc4242910ce810f071dd5dfa9b0a52771bd926371ebf3b3", func := "loop.example/parquetry/laws.FnBroadPairs", spec := "fnBroadPairs", unfollowed := true, recurses := true, apart := false }
def FnBroadPairsSaid : Prop := fnBroadPairsRow.holds Try.pinned (OpenSpec.ofChange fnBroadPairsSpec)

/-- ITS FALSE NEIGHBOUR: 'it returns false'. Refute it at one input. -/
def fnBroadPairsWrong : ChangeSpec := { name := "fnBroadPairs", fn := fun _ => fun
  | [d] => { results := [.lit (.bool false)], args := [d] }
  | _ => none }
def FnBroadPairsWrongFalsely : Prop := fnBroadPairsRow.holds Try.pinned (OpenSpec.ofChange fnBroadPairsWrong)

/-- 'laws.FnBroadAsk': WHATEVER THE INPUT: true; the input reads as it did. -/
def fnBroadAskSpec : ChangeSpec := { name := "fnBroadAsk", fn := fun _ => fun
  | [d1, d2] => { results := [.lit (.bool true)], args := [d1, d2] }
  | _ => none }
def fnBroadAskRow : OpenClaim := { program := "ytbngdlbecdloiaa", sum := "ce0930b99d0ae3e83dc4242910ce810f071dd5dfa9b0a52771bd926371ebf3b3", func := "loop.example/parquetry/laws.FnBroadAsk", spec := "fnBroadAsk", unfollowed := true, recurses := true, apart := false }
def FnBroadAskSaid : Prop := fnBroadAskRow.holds Try.pinned (OpenSpec.ofChange fnBroadAskSpec)

/-- ITS FALSE NEIGHBOUR: 'it returns false'. Refute it at one input. -/
def fnBroadAskWrong : ChangeSpec := { name := "fnBroadAsk", fn := fun _ => fun
  | [d1, d2] => { results := [.lit (.bool false)], args := [d1, d2] }
  | _ => none }
def FnBroadAskWrongFalsely : Prop := fnBroadAskRow.holds Try.pinned (OpenSpec.ofChange fnBroadAskWrong)

/-- 'laws.FnBroadNew': WHATEVER THE INPUT: true; the input reads as it did. -/
def fnBroadNewSpec : ChangeSpec := { name := "fnBroadNew", fn := fun _ => fun
  | [d] => { results := [.lit (.bool true)], args := [d] }
  | _ => none }
def fnBroadNewRow : OpenClaim := { program := "ytbngdlbecdloiaa", sum := "ce0930b99d0ae3e83dc4242910ce810f071dd5dfa9b0a52771bd926371ebf3b3", func := "loop.example/parquetry/laws.FnBroadNew", spec := "fnBroadNew", unfollowed := true, recurses := true, apart := false }
def FnBroadNewSaid : Prop := fnBroadNewRow.holds Try.pinned (OpenSpec.ofChange fnBroadNewSpec)

/-- ITS FALSE NEIGHBOUR: 'it returns false'. Refute it at one input. -/
def fnBroadNewWrong : ChangeSpec := { name := "fnBroadNew", fn := fun _ => fun
  | [d] => { results := [.lit (.bool false)], args := [d] }
  | _ => none }
def FnBroadNewWrongFalsely : Prop := fnBroadNewRow.holds Try.pinned (OpenSpec.ofChange fnBroadNewWrong)

/-- 'laws.FnBroadOrder': WHATEVER THE INPUT: true; the input reads as it did. -/
def fnBroadOrderSpec : ChangeSpec := { name := "fnBroadOrder", fn := fun _ => fun
  | [d] => { results := [.lit (.bool true)], args := [d] }
  | _ => none }
def fnBroadOrderRow : OpenClaim := { program := "ytbngdlbecdloiaa", sum := "ce0930b99d0ae3e83dc4242910ce810f071dd5dfa9b0a52771bd926371ebf3b3", func := "loop.example/parquetry/laws.FnBroadOrder", spec := "fnBroadOrder", unfollowed := true, recurses := true, apart := false }
def FnBroadOrderSaid : Prop := fnBroadOrderRow.holds Try.pinned (OpenSpec.ofChange fnBroadOrderSpec)

/-- ITS FALSE NEIGHBOUR: 'it returns false'. Refute it at one input. -/
def fnBroadOrderWrong : ChangeSpec := { name := "fnBroadOrder", fn := fun _ => fun
  | [d] => { results := [.lit (.bool false)], args := [d] }
  | _ => none }
def FnBroadOrderWrongFalsely : Prop := fnBroadOrderRow.holds Try.pinned (OpenSpec.ofChange fnBroadOrderWrong)

/- THE SECOND FORM. 'bulk': how many values and letters a reading holds, each counted each time it is reached (what is shared counts as often as it is met; a slice's spare places count too). A statement '..UptoSaid' is the law's where the arguments, and the package variables that the reading takes, are together of bulk at most 1048576: NARROWER than '..Said'. Prove '..Said' where nothing that the law and all that it calls make is longer than what came in: it says more and counts as full. Else prove '..UptoSaid'. A law counts once. -/
mutual
def uptoBulk {H : Type} : DataW H → Nat
  | .lit (.string bytes) => bytes.length + 1
  | .lit _ => 1
  | .nil => 1
  | .ptr d => uptoBulk d + 1
  | .slice elems spare => uptoBulkAll elems + uptoBulkAll spare + 1
  | .agg parts => uptoBulkAll parts + 1
  | .iface _ d => uptoBulk d + 1
  | .map entries => uptoBulkEntries entries + 1
  | .held _ => 1
def uptoBulkAll {H : Type} : List (DataW H) → Nat
  | [] => 0
  | d :: r => uptoBulk d + uptoBulkAll r
def uptoBulkEntries {H : Type} : List (Lit × DataW H) → Nat
  | [] => 0
  | x :: r => uptoBulkEntry x + uptoBulkEntries r
def uptoBulkEntry {H : Type} : Lit × DataW H → Nat
  | (.string bytes, d) => bytes.length + uptoBulk d + 1
  | (_, d) => uptoBulk d + 1
 end
def uptoSmall : (H : Type) → List (DataW H) → Bool := fun _ ds => decide (uptoBulkAll ds ≤ 1048576)
def OpenSpec.upto (s : _root_.Go.ChangeSpec) : _root_.Go.OpenSpec := { _root_.Go.OpenSpec.ofChange s with cond := some uptoSmall }

/-- 'laws.FnBroadPut', WHERE WHAT IT READS IS OF BULK AT MOST 1048576: true; the input reads as it did. -/
def fnBroadPutUptoRow : OpenClaim := { program := "ytbngdlbecdloiaa", sum := "ce0930b99d0ae3e83dc4242910ce810f071dd5dfa9b0a52771bd926371ebf3b3", func := "loop.example/parquetry/laws.FnBroadPut", spec := "fnBroadPut", unfollowed := true, recurses := true, apart := false, narrowed := true }
def FnBroadPutUptoSaid : Prop := fnBroadPutUptoRow.holds Try.pinned (OpenSpec.upto fnBroadPutSpec)

/-- 'laws.FnBroadGone', WHERE WHAT IT READS IS OF BULK AT MOST 1048576: true; the input reads as it did. -/
def fnBroadGoneUptoRow : OpenClaim := { program := "ytbngdlbecdloiaa", sum := "ce0930b99d0ae3e83dc4242910ce810f071dd5dfa9b0a52771bd926371ebf3b3", func := "loop.example/parquetry/laws.FnBroadGone", spec := "fnBroadGone", unfollowed := true, recurses := true, apart := false, narrowed := true }
def FnBroadGoneUptoSaid : Prop := fnBroadGoneUptoRow.holds Try.pinned (OpenSpec.upto fnBroadGoneSpec)

/-- 'laws.FnBroadPairs', WHERE WHAT IT READS IS OF BULK AT MOST 1048576: true; the input reads as it did. -/
def fnBroadPairsUptoRow : OpenClaim := { program := "ytbngdlbecdloiaa", sum := "ce0930b99d0ae3e83dc4242910ce810f071dd5dfa9b0a52771bd926371ebf3b3", func := "loop.example/parquetry/laws.FnBroadPairs", spec := "fnBroadPairs", unfollowed := true, recurses := true, apart := false, narrowed := true }
def FnBroadPairsUptoSaid : Prop := fnBroadPairsUptoRow.holds Try.pinned (OpenSpec.upto fnBroadPairsSpec)

/-- 'laws.FnBroadAsk', WHERE WHAT IT READS IS OF BULK AT MOST 1048576: true; the input reads as it did. -/
def fnBroadAskUptoRow : OpenClaim := { program := "ytbngdlbecdloiaa", sum := "ce0930b99d0ae3e83dc4242910ce810f071dd5dfa9b0a52771bd926371ebf3b3", func := "loop.example/parquetry/laws.FnBroadAsk", spec := "fnBroadAsk", unfollowed := true, recurses := true, apart := false, narrowed := true }
def FnBroadAskUptoSaid : Prop := fnBroadAskUptoRow.holds Try.pinned (OpenSpec.upto fnBroadAskSpec)

/-- 'laws.FnBroadNew', WHERE WHAT IT READS IS OF BULK AT MOST 1048576: true; the input reads as it did. -/
def fnBroadNewUptoRow : OpenClaim := { program := "ytbngdlbecdloiaa", sum := "ce0930b99d0ae3e83dc4242910ce810f071dd5dfa9b0a52771bd926371ebf3b3", func := "loop.example/parquetry/laws.FnBroadNew", spec := "fnBroadNew", unfollowed := true, recurses := true, apart := false, narrowed := true }
def FnBroadNewUptoSaid : Prop := fnBroadNewUptoRow.holds Try.pinned (OpenSpec.upto fnBroadNewSpec)

/-- 'laws.FnBroadOrder', WHERE WHAT IT READS IS OF BULK AT MOST 1048576: true; the input reads as it did. -/
def fnBroadOrderUptoRow : OpenClaim := { program := "ytbngdlbecdloiaa", sum := "ce0930b99d0ae3e83dc4242910ce810f071dd5dfa9b0a52771bd926371ebf3b3", func := "loop.example/parquetry/laws.FnBroadOrder", spec := "fnBroadOrder", unfollowed := true, recurses := true, apart := false, narrowed := true }
def FnBroadOrderUptoSaid : Prop := fnBroadOrderUptoRow.holds Try.pinned (OpenSpec.upto fnBroadOrderSpec)

end Rows
end Go.Proofs.Ytbngdlbecdloiaa
