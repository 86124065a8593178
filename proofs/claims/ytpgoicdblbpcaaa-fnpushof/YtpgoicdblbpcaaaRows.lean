/-
  No cell of these rows narrows 'for every input' (looked for: loops, veiled, ifaces, maps, wideKeys, modest, calm, conditions, laid).
  DERIVED. THE GIVEN ROWS OF THIS SEAT. 3 by the template 'for every input the law returns true; each argument reads behind the call as it read before'; 0 by the template 'total and deterministic' (their statements: YtpgoicdblbpcaaaTotals.lean).
  GIVEN WITH THE SEED: the statements are not yours to turn. If you find one false, say at which input.
  Laid BY PROGRAM, IN A SANDBOX (cutbox-rows.mjs): the forced cells as the released guide's own fill.sh prints them over the translation 01a780bc5fda9317… (all of the seat's roots in one cut). By AI agents, Wed Nov 11 2026. No macro, syntax, notation, axiom, sorry.
-/
import Derived.Test.YtpgoicdblbpcaaaChecked
import GoSem.Claim
import GoSem.ClaimJoined
import GoSem.ClaimMapViews
import Derived.JoinedTies
import Derived.KernelRfl
namespace Go.Proofs.Ytpgoicdblbpcaaa
/- THE CELL 'sum', in the pinned program and in every row, IS THE sha256 OF THE DUMP (.gsa) THAT YtpgoicdblbpcaaaProg.lean LOADS. Nothing in Lean hashes anything: it is a label: what it is worth is what the hold of that sum in a sandbox is worth. -/
noncomputable def Try.pinned : Pinned := { name := "ytpgoicdblbpcaaa", sum := "01a780bc5fda9317bb529aef5ccedb2df49e81918ad58a2e83ae62be7ac83d7c", checked := Try.checked }
namespace Rows
def none {H : Type} : Left H := { results := [], args := [] }

/-- 'laws.FnClosing': WHATEVER THE INPUT: true; the input reads as it did. -/
def fnClosingSpec : ChangeSpec := { name := "fnClosing", fn := fun _ => fun
  | [d] => { results := [.lit (.bool true)], args := [d] }
  | _ => none }
def fnClosingRow : OpenClaim := { program := "ytpgoicdblbpcaaa", sum := "01a780bc5fda9317bb529aef5ccedb2df49e81918ad58a2e83ae62be7ac83d7c", func := "loop.example/parquetry/laws.FnClosing", spec := "fnClosing", apart := false }
def FnClosingSaid : Prop := fnClosingRow.holds Try.pinned (OpenSpec.ofChange fnClosingSpec)

/-- ITS FALSE NEIGHBOUR: 'it returns false'. Refute it at one input. -/
def fnClosingWrong : ChangeSpec := { name := "fnClosing", fn := fun _ => fun
  | [d] => { results := [.lit (.bool false)], args := [d] }
  | _ => none }
def FnClosingWrongFalsely : Prop := fnClosingRow.holds Try.pinned (OpenSpec.ofChange fnClosingWrong)

/-- 'laws.FnPushOf': WHATEVER THE INPUT: true; the input reads as it did. -/
def fnPushOfSpec : ChangeSpec := { name := "fnPushOf", fn := fun _ => fun
  | [d] => { results := [.lit (.bool true)], args := [d] }
  | _ => none }
def fnPushOfRow : OpenClaim := { program := "ytpgoicdblbpcaaa", sum := "01a780bc5fda9317bb529aef5ccedb2df49e81918ad58a2e83ae62be7ac83d7c", func := "loop.example/parquetry/laws.FnPushOf", spec := "fnPushOf", apart := false }
def FnPushOfSaid : Prop := fnPushOfRow.holds Try.pinned (OpenSpec.ofChange fnPushOfSpec)

/-- ITS FALSE NEIGHBOUR: 'it returns false'. Refute it at one input. -/
def fnPushOfWrong : ChangeSpec := { name := "fnPushOf", fn := fun _ => fun
  | [d] => { results := [.lit (.bool false)], args := [d] }
  | _ => none }
def FnPushOfWrongFalsely : Prop := fnPushOfRow.holds Try.pinned (OpenSpec.ofChange fnPushOfWrong)

/-- 'laws.FnPushSlow': WHATEVER THE INPUT: true; the input reads as it did. -/
def fnPushSlowSpec : ChangeSpec := { name := "fnPushSlow", fn := fun _ => fun
  | [d] => { results := [.lit (.bool true)], args := [d] }
  | _ => none }
def fnPushSlowRow : OpenClaim := { program := "ytpgoicdblbpcaaa", sum := "01a780bc5fda9317bb529aef5ccedb2df49e81918ad58a2e83ae62be7ac83d7c", func := "loop.example/parquetry/laws.FnPushSlow", spec := "fnPushSlow", apart := false }
def FnPushSlowSaid : Prop := fnPushSlowRow.holds Try.pinned (OpenSpec.ofChange fnPushSlowSpec)

/-- ITS FALSE NEIGHBOUR: 'it returns false'. Refute it at one input. -/
def fnPushSlowWrong : ChangeSpec := { name := "fnPushSlow", fn := fun _ => fun
  | [d] => { results := [.lit (.bool false)], args := [d] }
  | _ => none }
def FnPushSlowWrongFalsely : Prop := fnPushSlowRow.holds Try.pinned (OpenSpec.ofChange fnPushSlowWrong)

/- THE SECOND FORM. 'bulk': how many values and letters a reading holds, each counted each time it is reached (what is shared counts as often as it is met; a slice's spare places count too). A statement '..UptoSaid' is the law's where the arguments, and the package variables that the reading takes, are together of bulk at most 1048576: NARROWER than '..Said'. Prove '..Said' where nothing that the law and all that it calls make is longer than what came in: it says more and counts as full. Else prove '..UptoSaid'. A law counts once. -/
mutual
def uptoBulk {H : Type} : DataW H → Nat
  | .lit (.string bytes) => bytes.length + 1
  | .lit _ => 1
  | .nil => 1
  | .ptr d => uptoBulk d + 1
  | .slice elems spare => uptoBulkAll elems + uptoBulkAll spare + 1
  | .agg parts => uptoBulkAll parts + 1
  | .iface _ d => uptoBulk d + 1
  | .map entries => uptoBulkEntries entries + 1
  | .held _ => 1
def uptoBulkAll {H : Type} : List (DataW H) → Nat
  | [] => 0
  | d :: r => uptoBulk d + uptoBulkAll r
def uptoBulkEntries {H : Type} : List (Lit × DataW H) → Nat
  | [] => 0
  | x :: r => uptoBulkEntry x + uptoBulkEntries r
def uptoBulkEntry {H : Type} : Lit × DataW H → Nat
  | (.string bytes, d) => bytes.length + uptoBulk d + 1
  | (_, d) => uptoBulk d + 1
 end
def uptoSmall : (H : Type) → List (DataW H) → Bool := fun _ ds => decide (uptoBulkAll ds ≤ 1048576)
def OpenSpec.upto (s : _root_.Go.ChangeSpec) : _root_.Go.OpenSpec := { _root_.Go.OpenSpec.ofChange s with cond := some uptoSmall }

/-- 'laws.FnClosing', WHERE WHAT IT READS IS OF BULK AT MOST 1048576: true; the input reads as it did. -/
def fnClosingUptoRow : OpenClaim := { program := "ytpgoicdblbpcaaa", sum := "01a780bc5fda9317bb529aef5ccedb2df49e81918ad58a2e83ae62be7ac83d7c", func := "loop.example/parquetry/laws.FnClosing", spec := "fnClosing", apart := false, narrowed := true }
def FnClosingUptoSaid : Prop := fnClosingUptoRow.holds Try.pinned (OpenSpec.upto fnClosingSpec)

/-- 'laws.FnPushOf', WHERE WHAT IT READS IS OF BULK AT MOST 1048576: true; the input reads as it did. -/
def fnPushOfUptoRow : OpenClaim := { program := "ytpgoicdblbpcaaa", sum := "01a780bc5fda9317bb529aef5ccedb2df49e81918ad58a2e83ae62be7ac83d7c", func := "loop.example/parquetry/laws.FnPushOf", spec := "fnPushOf", apart := false, narrowed := true }
def FnPushOfUptoSaid : Prop := fnPushOfUptoRow.holds Try.pinned (OpenSpec.upto fnPushOfSpec)

/-- 'laws.FnPushSlow', WHERE WHAT IT READS IS OF BULK AT MOST 1048576: true; the input reads as it did. -/
def fnPushSlowUptoRow : OpenClaim := { program := "ytpgoicdblbpcaaa", sum := "01a780bc5fda9317bb529aef5ccedb2df49e81918ad58a2e83ae62be7ac83d7c", func := "loop.example/parquetry/laws.FnPushSlow", spec := "fnPushSlow", apart := false, narrowed := true }
def FnPushSlowUptoSaid : Prop := fnPushSlowUptoRow.holds Try.pinned (OpenSpec.upto fnPushSlowSpec)

end Rows
end Go.Proofs.Ytpgoicdblbpcaaa
