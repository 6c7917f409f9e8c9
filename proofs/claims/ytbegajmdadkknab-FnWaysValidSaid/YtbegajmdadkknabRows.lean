/-
  No cell of these rows narrows 'for every input' (looked for: loops, veiled, ifaces, maps, wideKeys, modest, calm, conditions, laid).
  DERIVED. THE GIVEN ROWS OF THIS SEAT. 8 by the template 'for every input the law returns true; each argument reads behind the call as it read before'; 0 by the template 'total and deterministic' (their statements: YtbegajmdadkknabTotals.lean).
  GIVEN WITH THE SEED: the statements are not yours to turn. If you find one false, say at which input.
  Laid BY PROGRAM, IN A SANDBOX (cutbox-rows.mjs): the forced cells as the released guide's own fill.sh prints them over the translation 6a098d64dc04407f… (all of the seat's roots in one cut). By AI agents, Wed Nov 11 2026. No macro, syntax, notation, axiom, sorry.
-/
import Derived.Test.YtbegajmdadkknabChecked
import GoSem.Claim
import GoSem.ClaimJoined
import GoSem.ClaimMapViews
import Derived.JoinedTies
import Derived.KernelRfl
namespace Go.Proofs.Ytbegajmdadkknab
/- THE CELL 'sum', in the pinned program and in every row, IS THE sha256 OF THE DUMP (.gsa) THAT YtbegajmdadkknabProg.lean LOADS. Nothing in Lean hashes anything: it is a label: what it is worth is what the hold of that sum in a sandbox is worth. -/
noncomputable def Try.pinned : Pinned := { name := "ytbegajmdadkknab", sum := "6a098d64dc04407fba7e826708b448b05185f161a066a350a58b9a0011712cf7", checked := Try.checked }
namespace Rows
def none {H : Type} : Left H := { results := [], args := [] }

/-- 'laws.FnRoundLess': WHATEVER THE INPUT: true; the input reads as it did. -/
def fnRoundLessSpec : ChangeSpec := { name := "fnRoundLess", fn := fun _ => fun
  | [d1, d2] => { results := [.lit (.bool true)], args := [d1, d2] }
  | _ => none }
def fnRoundLessRow : OpenClaim := { program := "ytbegajmdadkknab", sum := "6a098d64dc04407fba7e826708b448b05185f161a066a350a58b9a0011712cf7", func := "loop.example/sundials/laws.FnRoundLess", spec := "fnRoundLess", apart := false }
def FnRoundLessSaid : Prop := fnRoundLessRow.holds Try.pinned (OpenSpec.ofChange fnRoundLessSpec)

/-- ITS FALSE NEIGHBOUR: 'it returns false'. Refute it at one input. -/
def fnRoundLessWrong : ChangeSpec := { name := "fnRoundLess", fn := fun _ => fun
  | [d1, d2] => { results := [.lit (.bool false)], args := [d1, d2] }
  | _ => none }
def FnRoundLessWrongFalsely : Prop := fnRoundLessRow.holds Try.pinned (OpenSpec.ofChange fnRoundLessWrong)

/-- 'laws.FnSameWay': WHATEVER THE INPUT: true; the input reads as it did. -/
def fnSameWaySpec : ChangeSpec := { name := "fnSameWay", fn := fun _ => fun
  | [d] => { results := [.lit (.bool true)], args := [d] }
  | _ => none }
def fnSameWayRow : OpenClaim := { program := "ytbegajmdadkknab", sum := "6a098d64dc04407fba7e826708b448b05185f161a066a350a58b9a0011712cf7", func := "loop.example/sundials/laws.FnSameWay", spec := "fnSameWay", apart := false }
def FnSameWaySaid : Prop := fnSameWayRow.holds Try.pinned (OpenSpec.ofChange fnSameWaySpec)

/-- ITS FALSE NEIGHBOUR: 'it returns false'. Refute it at one input. -/
def fnSameWayWrong : ChangeSpec := { name := "fnSameWay", fn := fun _ => fun
  | [d] => { results := [.lit (.bool false)], args := [d] }
  | _ => none }
def FnSameWayWrongFalsely : Prop := fnSameWayRow.holds Try.pinned (OpenSpec.ofChange fnSameWayWrong)

/-- 'laws.FnWaysValid': WHATEVER THE INPUT: true; the input reads as it did. -/
def fnWaysValidSpec : ChangeSpec := { name := "fnWaysValid", fn := fun _ => fun
  | [d] => { results := [.lit (.bool true)], args := [d] }
  | _ => none }
def fnWaysValidRow : OpenClaim := { program := "ytbegajmdadkknab", sum := "6a098d64dc04407fba7e826708b448b05185f161a066a350a58b9a0011712cf7", func := "loop.example/sundials/laws.FnWaysValid", spec := "fnWaysValid", apart := false }
def FnWaysValidSaid : Prop := fnWaysValidRow.holds Try.pinned (OpenSpec.ofChange fnWaysValidSpec)

/-- ITS FALSE NEIGHBOUR: 'it returns false'. Refute it at one input. -/
def fnWaysValidWrong : ChangeSpec := { name := "fnWaysValid", fn := fun _ => fun
  | [d] => { results := [.lit (.bool false)], args := [d] }
  | _ => none }
def FnWaysValidWrongFalsely : Prop := fnWaysValidRow.holds Try.pinned (OpenSpec.ofChange fnWaysValidWrong)

/-- 'laws.FnBetween': WHATEVER THE INPUT: true; the input reads as it did. -/
def fnBetweenSpec : ChangeSpec := { name := "fnBetween", fn := fun _ => fun
  | [d] => { results := [.lit (.bool true)], args := [d] }
  | _ => none }
def fnBetweenRow : OpenClaim := { program := "ytbegajmdadkknab", sum := "6a098d64dc04407fba7e826708b448b05185f161a066a350a58b9a0011712cf7", func := "loop.example/sundials/laws.FnBetween", spec := "fnBetween", apart := false }
def FnBetweenSaid : Prop := fnBetweenRow.holds Try.pinned (OpenSpec.ofChange fnBetweenSpec)

/-- ITS FALSE NEIGHBOUR: 'it returns false'. Refute it at one input. -/
def fnBetweenWrong : ChangeSpec := { name := "fnBetween", fn := fun _ => fun
  | [d] => { results := [.lit (.bool false)], args := [d] }
  | _ => none }
def FnBetweenWrongFalsely : Prop := fnBetweenRow.holds Try.pinned (OpenSpec.ofChange fnBetweenWrong)

/-- 'laws.FnTurnOf': WHATEVER THE INPUT: true; the input reads as it did. -/
def fnTurnOfSpec : ChangeSpec := { name := "fnTurnOf", fn := fun _ => fun
  | [d] => { results := [.lit (.bool true)], args := [d] }
  | _ => none }
def fnTurnOfRow : OpenClaim := { program := "ytbegajmdadkknab", sum := "6a098d64dc04407fba7e826708b448b05185f161a066a350a58b9a0011712cf7", func := "loop.example/sundials/laws.FnTurnOf", spec := "fnTurnOf", apart := false }
def FnTurnOfSaid : Prop := fnTurnOfRow.holds Try.pinned (OpenSpec.ofChange fnTurnOfSpec)

/-- ITS FALSE NEIGHBOUR: 'it returns false'. Refute it at one input. -/
def fnTurnOfWrong : ChangeSpec := { name := "fnTurnOf", fn := fun _ => fun
  | [d] => { results := [.lit (.bool false)], args := [d] }
  | _ => none }
def FnTurnOfWrongFalsely : Prop := fnTurnOfRow.holds Try.pinned (OpenSpec.ofChange fnTurnOfWrong)

/-- 'laws.FnSine': WHATEVER THE INPUT: true; the input reads as it did. -/
def fnSineSpec : ChangeSpec := { name := "fnSine", fn := fun _ => fun
  | [d] => { results := [.lit (.bool true)], args := [d] }
  | _ => none }
def fnSineRow : OpenClaim := { program := "ytbegajmdadkknab", sum := "6a098d64dc04407fba7e826708b448b05185f161a066a350a58b9a0011712cf7", func := "loop.example/sundials/laws.FnSine", spec := "fnSine", recurses := true, apart := false }
def FnSineSaid : Prop := fnSineRow.holds Try.pinned (OpenSpec.ofChange fnSineSpec)

/-- ITS FALSE NEIGHBOUR: 'it returns false'. Refute it at one input. -/
def fnSineWrong : ChangeSpec := { name := "fnSine", fn := fun _ => fun
  | [d] => { results := [.lit (.bool false)], args := [d] }
  | _ => none }
def FnSineWrongFalsely : Prop := fnSineRow.holds Try.pinned (OpenSpec.ofChange fnSineWrong)

/-- 'laws.FnCosine': WHATEVER THE INPUT: true; the input reads as it did. -/
def fnCosineSpec : ChangeSpec := { name := "fnCosine", fn := fun _ => fun
  | [d] => { results := [.lit (.bool true)], args := [d] }
  | _ => none }
def fnCosineRow : OpenClaim := { program := "ytbegajmdadkknab", sum := "6a098d64dc04407fba7e826708b448b05185f161a066a350a58b9a0011712cf7", func := "loop.example/sundials/laws.FnCosine", spec := "fnCosine", recurses := true, apart := false }
def FnCosineSaid : Prop := fnCosineRow.holds Try.pinned (OpenSpec.ofChange fnCosineSpec)

/-- ITS FALSE NEIGHBOUR: 'it returns false'. Refute it at one input. -/
def fnCosineWrong : ChangeSpec := { name := "fnCosine", fn := fun _ => fun
  | [d] => { results := [.lit (.bool false)], args := [d] }
  | _ => none }
def FnCosineWrongFalsely : Prop := fnCosineRow.holds Try.pinned (OpenSpec.ofChange fnCosineWrong)

/-- 'laws.FnHeading': WHATEVER THE INPUT: true; the input reads as it did. -/
def fnHeadingSpec : ChangeSpec := { name := "fnHeading", fn := fun _ => fun
  | [d] => { results := [.lit (.bool true)], args := [d] }
  | _ => none }
def fnHeadingRow : OpenClaim := { program := "ytbegajmdadkknab", sum := "6a098d64dc04407fba7e826708b448b05185f161a066a350a58b9a0011712cf7", func := "loop.example/sundials/laws.FnHeading", spec := "fnHeading", recurses := true, apart := false }
def FnHeadingSaid : Prop := fnHeadingRow.holds Try.pinned (OpenSpec.ofChange fnHeadingSpec)

/-- ITS FALSE NEIGHBOUR: 'it returns false'. Refute it at one input. -/
def fnHeadingWrong : ChangeSpec := { name := "fnHeading", fn := fun _ => fun
  | [d] => { results := [.lit (.bool false)], args := [d] }
  | _ => none }
def FnHeadingWrongFalsely : Prop := fnHeadingRow.holds Try.pinned (OpenSpec.ofChange fnHeadingWrong)

/- THE SECOND FORM. 'bulk': how many values and letters a reading holds, each counted each time it is reached (what is shared counts as often as it is met; a slice's spare places count too). A statement '..UptoSaid' is the law's where the arguments, and the package variables that the reading takes, are together of bulk at most 1048576: NARROWER than '..Said'. Prove '..Said' where nothing that the law and all that it calls make is longer than what came in: it says more and counts as full. Else prove '..UptoSaid'. A law counts once. -/
mutual
def uptoBulk {H : Type} : DataW H → Nat
  | .lit (.string bytes) => bytes.length + 1
  | .lit _ => 1
  | .nil => 1
  | .ptr d => uptoBulk d + 1
  | .slice elems spare => uptoBulkAll elems + uptoBulkAll spare + 1
  | .agg parts => uptoBulkAll parts + 1
  | .iface _ d => uptoBulk d + 1
  | .map entries => uptoBulkEntries entries + 1
  | .held _ => 1
def uptoBulkAll {H : Type} : List (DataW H) → Nat
  | [] => 0
  | d :: r => uptoBulk d + uptoBulkAll r
def uptoBulkEntries {H : Type} : List (Lit × DataW H) → Nat
  | [] => 0
  | x :: r => uptoBulkEntry x + uptoBulkEntries r
def uptoBulkEntry {H : Type} : Lit × DataW H → Nat
  | (.string bytes, d) => bytes.length + uptoBulk d + 1
  | (_, d) => uptoBulk d + 1
 end
def uptoSmall : (H : Type) → List (DataW H) → Bool := fun _ ds => decide (uptoBulkAll ds ≤ 1048576)
def OpenSpec.upto (s : _root_.Go.ChangeSpec) : _root_.Go.OpenSpec := { _root_.Go.OpenSpec.ofChange s with cond := some uptoSmall }

/-- 'laws.FnRoundLess', WHERE WHAT IT READS IS OF BULK AT MOST 1048576: true; the input reads as it did. -/
def fnRoundLessUptoRow : OpenClaim := { program := "ytbegajmdadkknab", sum := "6a098d64dc04407fba7e826708b448b05185f161a066a350a58b9a0011712cf7", func := "loop.example/sundials/laws.FnRoundLess", spec := "fnRoundLess", apart := false, narrowed := true }
def FnRoundLessUptoSaid : Prop := fnRoundLessUptoRow.holds Try.pinned (OpenSpec.upto fnRoundLessSpec)

/-- 'laws.FnSameWay', WHERE WHAT IT READS IS OF BULK AT MOST 1048576: true; the input reads as it did. -/
def fnSameWayUptoRow : OpenClaim := { program := "ytbegajmdadkknab", sum := "6a098d64dc04407fba7e826708b448b05185f161a066a350a58b9a0011712cf7", func := "loop.example/sundials/laws.FnSameWay", spec := "fnSameWay", apart := false, narrowed := true }
def FnSameWayUptoSaid : Prop := fnSameWayUptoRow.holds Try.pinned (OpenSpec.upto fnSameWaySpec)

/-- 'laws.FnWaysValid', WHERE WHAT IT READS IS OF BULK AT MOST 1048576: true; the input reads as it did. -/
def fnWaysValidUptoRow : OpenClaim := { program := "ytbegajmdadkknab", sum := "6a098d64dc04407fba7e826708b448b05185f161a066a350a58b9a0011712cf7", func := "loop.example/sundials/laws.FnWaysValid", spec := "fnWaysValid", apart := false, narrowed := true }
def FnWaysValidUptoSaid : Prop := fnWaysValidUptoRow.holds Try.pinned (OpenSpec.upto fnWaysValidSpec)

/-- 'laws.FnBetween', WHERE WHAT IT READS IS OF BULK AT MOST 1048576: true; the input reads as it did. -/
def fnBetweenUptoRow : OpenClaim := { program := "ytbegajmdadkknab", sum := "6a098d64dc04407fba7e826708b448b05185f161a066a350a58b9a0011712cf7", func := "loop.example/sundials/laws.FnBetween", spec := "fnBetween", apart := false, narrowed := true }
def FnBetweenUptoSaid : Prop := fnBetweenUptoRow.holds Try.pinned (OpenSpec.upto fnBetweenSpec)

/-- 'laws.FnTurnOf', WHERE WHAT IT READS IS OF BULK AT MOST 1048576: true; the input reads as it did. -/
def fnTurnOfUptoRow : OpenClaim := { program := "ytbegajmdadkknab", sum := "6a098d64dc04407fba7e826708b448b05185f161a066a350a58b9a0011712cf7", func := "loop.example/sundials/laws.FnTurnOf", spec := "fnTurnOf", apart := false, narrowed := true }
def FnTurnOfUptoSaid : Prop := fnTurnOfUptoRow.holds Try.pinned (OpenSpec.upto fnTurnOfSpec)

/-- 'laws.FnSine', WHERE WHAT IT READS IS OF BULK AT MOST 1048576: true; the input reads as it did. -/
def fnSineUptoRow : OpenClaim := { program := "ytbegajmdadkknab", sum := "6a098d64dc04407fba7e826708b448b05185f161a066a350a58b9a0011712cf7", func := "loop.example/sundials/laws.FnSine", spec := "fnSine", recurses := true, apart := false, narrowed := true }
def FnSineUptoSaid : Prop := fnSineUptoRow.holds Try.pinned (OpenSpec.upto fnSineSpec)

/-- 'laws.FnCosine', WHERE WHAT IT READS IS OF BULK AT MOST 1048576: true; the input reads as it did. -/
def fnCosineUptoRow : OpenClaim := { program := "ytbegajmdadkknab", sum := "6a098d64dc04407fba7e826708b448b05185f161a066a350a58b9a0011712cf7", func := "loop.example/sundials/laws.FnCosine", spec := "fnCosine", recurses := true, apart := false, narrowed := true }
def FnCosineUptoSaid : Prop := fnCosineUptoRow.holds Try.pinned (OpenSpec.upto fnCosineSpec)

/-- 'laws.FnHeading', WHERE WHAT IT READS IS OF BULK AT MOST 1048576: true; the input reads as it did. -/
def fnHeadingUptoRow : OpenClaim := { program := "ytbegajmdadkknab", sum := "6a098d64dc04407fba7e826708b448b05185f161a066a350a58b9a0011712cf7", func := "loop.example/sundials/laws.FnHeading", spec := "fnHeading", recurses := true, apart := false, narrowed := true }
def FnHeadingUptoSaid : Prop := fnHeadingUptoRow.holds Try.pinned (OpenSpec.upto fnHeadingSpec)

end Rows
end Go.Proofs.Ytbegajmdadkknab
