/-
  No cell of these rows narrows 'for every input' (looked for: loops, veiled, ifaces, maps, wideKeys, modest, calm, conditions, laid).
  DERIVED. THE GIVEN ROWS OF THIS SEAT. 8 by the template 'for every input the law returns true; each argument reads behind the call as it read before'; 0 by the template 'total and deterministic' (their statements: YtdinlgfkilmfeabTotals.lean).
  GIVEN WITH THE SEED: the statements are not yours to turn. If you find one false, say at which input.
  Laid BY PROGRAM, IN A SANDBOX (cutbox-rows.mjs): the forced cells as the released guide's own fill.sh prints them over the translation ed62e8caf891b0d4… (all of the seat's roots in one cut). By AI agents, Wed Nov 11 2026. No macro, syntax, notation, axiom, sorry.
-/
import Derived.Test.YtdinlgfkilmfeabChecked
import GoSem.Claim
import GoSem.ClaimJoined
import GoSem.ClaimMapViews
import Derived.JoinedTies
import Derived.KernelRfl
namespace Go.Proofs.Ytdinlgfkilmfeab
/- THE CELL 'sum', in the pinned program and in every row, IS THE sha256 OF THE DUMP (.gsa) THAT YtdinlgfkilmfeabProg.lean LOADS. Nothing in Lean hashes anything: it is a label: what it is worth is what the hold of that sum in a sandbox is worth. -/
noncomputable def Try.pinned : Pinned := { name := "ytdinlgfkilmfeab", sum := "ed62e8caf891b0d47288bce8b8b02e4810d1cfdd2a096fafef8019ea5e9d90cd", checked := Try.checked }
namespace Rows
def none {H : Type} : Left H := { results := [], args := [] }

/-- 'laws.FnExactRoundLess': WHATEVER THE INPUT: true; the input reads as it did. -/
def fnExactRoundLessSpec : ChangeSpec := { name := "fnExactRoundLess", fn := fun _ => fun
  | [d1, d2] => { results := [.lit (.bool true)], args := [d1, d2] }
  | _ => none }
def fnExactRoundLessRow : OpenClaim := { program := "ytdinlgfkilmfeab", sum := "ed62e8caf891b0d47288bce8b8b02e4810d1cfdd2a096fafef8019ea5e9d90cd", func := "loop.example/sundials/laws.FnExactRoundLess", spec := "fnExactRoundLess", apart := false }
def FnExactRoundLessSaid : Prop := fnExactRoundLessRow.holds Try.pinned (OpenSpec.ofChange fnExactRoundLessSpec)

/-- ITS FALSE NEIGHBOUR: 'it returns false'. Refute it at one input. -/
def fnExactRoundLessWrong : ChangeSpec := { name := "fnExactRoundLess", fn := fun _ => fun
  | [d1, d2] => { results := [.lit (.bool false)], args := [d1, d2] }
  | _ => none }
def FnExactRoundLessWrongFalsely : Prop := fnExactRoundLessRow.holds Try.pinned (OpenSpec.ofChange fnExactRoundLessWrong)

/-- 'laws.FnExactSameWay': WHATEVER THE INPUT: true; the input reads as it did. -/
def fnExactSameWaySpec : ChangeSpec := { name := "fnExactSameWay", fn := fun _ => fun
  | [d1, d2] => { results := [.lit (.bool true)], args := [d1, d2] }
  | _ => none }
def fnExactSameWayRow : OpenClaim := { program := "ytdinlgfkilmfeab", sum := "ed62e8caf891b0d47288bce8b8b02e4810d1cfdd2a096fafef8019ea5e9d90cd", func := "loop.example/sundials/laws.FnExactSameWay", spec := "fnExactSameWay", apart := false }
def FnExactSameWaySaid : Prop := fnExactSameWayRow.holds Try.pinned (OpenSpec.ofChange fnExactSameWaySpec)

/-- ITS FALSE NEIGHBOUR: 'it returns false'. Refute it at one input. -/
def fnExactSameWayWrong : ChangeSpec := { name := "fnExactSameWay", fn := fun _ => fun
  | [d1, d2] => { results := [.lit (.bool false)], args := [d1, d2] }
  | _ => none }
def FnExactSameWayWrongFalsely : Prop := fnExactSameWayRow.holds Try.pinned (OpenSpec.ofChange fnExactSameWayWrong)

/-- 'laws.FnExactWaysValid': WHATEVER THE INPUT: true; the input reads as it did. -/
def fnExactWaysValidSpec : ChangeSpec := { name := "fnExactWaysValid", fn := fun _ => fun
  | [d] => { results := [.lit (.bool true)], args := [d] }
  | _ => none }
def fnExactWaysValidRow : OpenClaim := { program := "ytdinlgfkilmfeab", sum := "ed62e8caf891b0d47288bce8b8b02e4810d1cfdd2a096fafef8019ea5e9d90cd", func := "loop.example/sundials/laws.FnExactWaysValid", spec := "fnExactWaysValid", apart := false }
def FnExactWaysValidSaid : Prop := fnExactWaysValidRow.holds Try.pinned (OpenSpec.ofChange fnExactWaysValidSpec)

/-- ITS FALSE NEIGHBOUR: 'it returns false'. Refute it at one input. -/
def fnExactWaysValidWrong : ChangeSpec := { name := "fnExactWaysValid", fn := fun _ => fun
  | [d] => { results := [.lit (.bool false)], args := [d] }
  | _ => none }
def FnExactWaysValidWrongFalsely : Prop := fnExactWaysValidRow.holds Try.pinned (OpenSpec.ofChange fnExactWaysValidWrong)

/-- 'laws.FnExactBetween': WHATEVER THE INPUT: true; the input reads as it did. -/
def fnExactBetweenSpec : ChangeSpec := { name := "fnExactBetween", fn := fun _ => fun
  | [d1, d2, d3] => { results := [.lit (.bool true)], args := [d1, d2, d3] }
  | _ => none }
def fnExactBetweenRow : OpenClaim := { program := "ytdinlgfkilmfeab", sum := "ed62e8caf891b0d47288bce8b8b02e4810d1cfdd2a096fafef8019ea5e9d90cd", func := "loop.example/sundials/laws.FnExactBetween", spec := "fnExactBetween", apart := false }
def FnExactBetweenSaid : Prop := fnExactBetweenRow.holds Try.pinned (OpenSpec.ofChange fnExactBetweenSpec)

/-- ITS FALSE NEIGHBOUR: 'it returns false'. Refute it at one input. -/
def fnExactBetweenWrong : ChangeSpec := { name := "fnExactBetween", fn := fun _ => fun
  | [d1, d2, d3] => { results := [.lit (.bool false)], args := [d1, d2, d3] }
  | _ => none }
def FnExactBetweenWrongFalsely : Prop := fnExactBetweenRow.holds Try.pinned (OpenSpec.ofChange fnExactBetweenWrong)

/-- 'laws.FnExactTurnOf': WHATEVER THE INPUT: true; the input reads as it did. -/
def fnExactTurnOfSpec : ChangeSpec := { name := "fnExactTurnOf", fn := fun _ => fun
  | [d] => { results := [.lit (.bool true)], args := [d] }
  | _ => none }
def fnExactTurnOfRow : OpenClaim := { program := "ytdinlgfkilmfeab", sum := "ed62e8caf891b0d47288bce8b8b02e4810d1cfdd2a096fafef8019ea5e9d90cd", func := "loop.example/sundials/laws.FnExactTurnOf", spec := "fnExactTurnOf", apart := false }
def FnExactTurnOfSaid : Prop := fnExactTurnOfRow.holds Try.pinned (OpenSpec.ofChange fnExactTurnOfSpec)

/-- ITS FALSE NEIGHBOUR: 'it returns false'. Refute it at one input. -/
def fnExactTurnOfWrong : ChangeSpec := { name := "fnExactTurnOf", fn := fun _ => fun
  | [d] => { results := [.lit (.bool false)], args := [d] }
  | _ => none }
def FnExactTurnOfWrongFalsely : Prop := fnExactTurnOfRow.holds Try.pinned (OpenSpec.ofChange fnExactTurnOfWrong)

/-- 'laws.FnExactSine': WHATEVER THE INPUT: true; the input reads as it did. -/
def fnExactSineSpec : ChangeSpec := { name := "fnExactSine", fn := fun _ => fun
  | [d] => { results := [.lit (.bool true)], args := [d] }
  | _ => none }
def fnExactSineRow : OpenClaim := { program := "ytdinlgfkilmfeab", sum := "ed62e8caf891b0d47288bce8b8b02e4810d1cfdd2a096fafef8019ea5e9d90cd", func := "loop.example/sundials/laws.FnExactSine", spec := "fnExactSine", recurses := true, apart := false }
def FnExactSineSaid : Prop := fnExactSineRow.holds Try.pinned (OpenSpec.ofChange fnExactSineSpec)

/-- ITS FALSE NEIGHBOUR: 'it returns false'. Refute it at one input. -/
def fnExactSineWrong : ChangeSpec := { name := "fnExactSine", fn := fun _ => fun
  | [d] => { results := [.lit (.bool false)], args := [d] }
  | _ => none }
def FnExactSineWrongFalsely : Prop := fnExactSineRow.holds Try.pinned (OpenSpec.ofChange fnExactSineWrong)

/-- 'laws.FnExactCosine': WHATEVER THE INPUT: true; the input reads as it did. -/
def fnExactCosineSpec : ChangeSpec := { name := "fnExactCosine", fn := fun _ => fun
  | [d] => { results := [.lit (.bool true)], args := [d] }
  | _ => none }
def fnExactCosineRow : OpenClaim := { program := "ytdinlgfkilmfeab", sum := "ed62e8caf891b0d47288bce8b8b02e4810d1cfdd2a096fafef8019ea5e9d90cd", func := "loop.example/sundials/laws.FnExactCosine", spec := "fnExactCosine", recurses := true, apart := false }
def FnExactCosineSaid : Prop := fnExactCosineRow.holds Try.pinned (OpenSpec.ofChange fnExactCosineSpec)

/-- ITS FALSE NEIGHBOUR: 'it returns false'. Refute it at one input. -/
def fnExactCosineWrong : ChangeSpec := { name := "fnExactCosine", fn := fun _ => fun
  | [d] => { results := [.lit (.bool false)], args := [d] }
  | _ => none }
def FnExactCosineWrongFalsely : Prop := fnExactCosineRow.holds Try.pinned (OpenSpec.ofChange fnExactCosineWrong)

/-- 'laws.FnExactHeading': WHATEVER THE INPUT: true; the input reads as it did. -/
def fnExactHeadingSpec : ChangeSpec := { name := "fnExactHeading", fn := fun _ => fun
  | [d] => { results := [.lit (.bool true)], args := [d] }
  | _ => none }
def fnExactHeadingRow : OpenClaim := { program := "ytdinlgfkilmfeab", sum := "ed62e8caf891b0d47288bce8b8b02e4810d1cfdd2a096fafef8019ea5e9d90cd", func := "loop.example/sundials/laws.FnExactHeading", spec := "fnExactHeading", recurses := true, apart := false }
def FnExactHeadingSaid : Prop := fnExactHeadingRow.holds Try.pinned (OpenSpec.ofChange fnExactHeadingSpec)

/-- ITS FALSE NEIGHBOUR: 'it returns false'. Refute it at one input. -/
def fnExactHeadingWrong : ChangeSpec := { name := "fnExactHeading", fn := fun _ => fun
  | [d] => { results := [.lit (.bool false)], args := [d] }
  | _ => none }
def FnExactHeadingWrongFalsely : Prop := fnExactHeadingRow.holds Try.pinned (OpenSpec.ofChange fnExactHeadingWrong)

/- THE SECOND FORM. 'bulk': how many values and letters a reading holds, each counted each time it is reached (what is shared counts as often as it is met; a slice's spare places count too). A statement '..UptoSaid' is the law's where the arguments, and the package variables that the reading takes, are together of bulk at most 1048576: NARROWER than '..Said'. Prove '..Said' where nothing that the law and all that it calls make is longer than what came in: it says more and counts as full. Else prove '..UptoSaid'. A law counts once. -/
mutual
def uptoBulk {H : Type} : DataW H → Nat
  | .lit (.string bytes) => bytes.length + 1
  | .lit _ => 1
  | .nil => 1
  | .ptr d => uptoBulk d + 1
  | .slice elems spare => uptoBulkAll elems + uptoBulkAll spare + 1
  | .agg parts => uptoBulkAll parts + 1
  | .iface _ d => uptoBulk d + 1
  | .map entries => uptoBulkEntries entries + 1
  | .held _ => 1
def uptoBulkAll {H : Type} : List (DataW H) → Nat
  | [] => 0
  | d :: r => uptoBulk d + uptoBulkAll r
def uptoBulkEntries {H : Type} : List (Lit × DataW H) → Nat
  | [] => 0
  | x :: r => uptoBulkEntry x + uptoBulkEntries r
def uptoBulkEntry {H : Type} : Lit × DataW H → Nat
  | (.string bytes, d) => bytes.length + uptoBulk d + 1
  | (_, d) => uptoBulk d + 1
 end
def uptoSmall : (H : Type) → List (DataW H) → Bool := fun _ ds => decide (uptoBulkAll ds ≤ 1048576)
def OpenSpec.upto (s : _root_.Go.ChangeSpec) : _root_.Go.OpenSpec := { _root_.Go.OpenSpec.ofChange s with cond := some uptoSmall }

/-- 'laws.FnExactRoundLess', WHERE WHAT IT READS IS OF BULK AT MOST 1048576: true; the input reads as it did. -/
def fnExactRoundLessUptoRow : OpenClaim := { program := "ytdinlgfkilmfeab", sum := "ed62e8caf891b0d47288bce8b8b02e4810d1cfdd2a096fafef8019ea5e9d90cd", func := "loop.example/sundials/laws.FnExactRoundLess", spec := "fnExactRoundLess", apart := false, narrowed := true }
def FnExactRoundLessUptoSaid : Prop := fnExactRoundLessUptoRow.holds Try.pinned (OpenSpec.upto fnExactRoundLessSpec)

/-- 'laws.FnExactSameWay', WHERE WHAT IT READS IS OF BULK AT MOST 1048576: true; the input reads as it did. -/
def fnExactSameWayUptoRow : OpenClaim := { program := "ytdinlgfkilmfeab", sum := "ed62e8caf891b0d47288bce8b8b02e4810d1cfdd2a096fafef8019ea5e9d90cd", func := "loop.example/sundials/laws.FnExactSameWay", spec := "fnExactSameWay", apart := false, narrowed := true }
def FnExactSameWayUptoSaid : Prop := fnExactSameWayUptoRow.holds Try.pinned (OpenSpec.upto fnExactSameWaySpec)

/-- 'laws.FnExactWaysValid', WHERE WHAT IT READS IS OF BULK AT MOST 1048576: true; the input reads as it did. -/
def fnExactWaysValidUptoRow : OpenClaim := { program := "ytdinlgfkilmfeab", sum := "ed62e8caf891b0d47288bce8b8b02e4810d1cfdd2a096fafef8019ea5e9d90cd", func := "loop.example/sundials/laws.FnExactWaysValid", spec := "fnExactWaysValid", apart := false, narrowed := true }
def FnExactWaysValidUptoSaid : Prop := fnExactWaysValidUptoRow.holds Try.pinned (OpenSpec.upto fnExactWaysValidSpec)

/-- 'laws.FnExactBetween', WHERE WHAT IT READS IS OF BULK AT MOST 1048576: true; the input reads as it did. -/
def fnExactBetweenUptoRow : OpenClaim := { program := "ytdinlgfkilmfeab", sum := "ed62e8caf891b0d47288bce8b8b02e4810d1cfdd2a096fafef8019ea5e9d90cd", func := "loop.example/sundials/laws.FnExactBetween", spec := "fnExactBetween", apart := false, narrowed := true }
def FnExactBetweenUptoSaid : Prop := fnExactBetweenUptoRow.holds Try.pinned (OpenSpec.upto fnExactBetweenSpec)

/-- 'laws.FnExactTurnOf', WHERE WHAT IT READS IS OF BULK AT MOST 1048576: true; the input reads as it did. -/
def fnExactTurnOfUptoRow : OpenClaim := { program := "ytdinlgfkilmfeab", sum := "ed62e8caf891b0d47288bce8b8b02e4810d1cfdd2a096fafef8019ea5e9d90cd", func := "loop.example/sundials/laws.FnExactTurnOf", spec := "fnExactTurnOf", apart := false, narrowed := true }
def FnExactTurnOfUptoSaid : Prop := fnExactTurnOfUptoRow.holds Try.pinned (OpenSpec.upto fnExactTurnOfSpec)

/-- 'laws.FnExactSine', WHERE WHAT IT READS IS OF BULK AT MOST 1048576: true; the input reads as it did. -/
def fnExactSineUptoRow : OpenClaim := { program := "ytdinlgfkilmfeab", sum := "ed62e8caf891b0d47288bce8b8b02e4810d1cfdd2a096fafef8019ea5e9d90cd", func := "loop.example/sundials/laws.FnExactSine", spec := "fnExactSine", recurses := true, apart := false, narrowed := true }
def FnExactSineUptoSaid : Prop := fnExactSineUptoRow.holds Try.pinned (OpenSpec.upto fnExactSineSpec)

/-- 'laws.FnExactCosine', WHERE WHAT IT READS IS OF BULK AT MOST 1048576: true; the input reads as it did. -/
def fnExactCosineUptoRow : OpenClaim := { program := "ytdinlgfkilmfeab", sum := "ed62e8caf891b0d47288bce8b8b02e4810d1cfdd2a096fafef8019ea5e9d90cd", func := "loop.example/sundials/laws.FnExactCosine", spec := "fnExactCosine", recurses := true, apart := false, narrowed := true }
def FnExactCosineUptoSaid : Prop := fnExactCosineUptoRow.holds Try.pinned (OpenSpec.upto fnExactCosineSpec)

/-- 'laws.FnExactHeading', WHERE WHAT IT READS IS OF BULK AT MOST 1048576: true; the input reads as it did. -/
def fnExactHeadingUptoRow : OpenClaim := { program := "ytdinlgfkilmfeab", sum := "ed62e8caf891b0d47288bce8b8b02e4810d1cfdd2a096fafef8019ea5e9d90cd", func := "loop.example/sundials/laws.FnExactHeading", spec := "fnExactHeading", recurses := true, apart := false, narrowed := true }
def FnExactHeadingUptoSaid : Prop := fnExactHeadingUptoRow.holds Try.pinned (OpenSpec.upto fnExactHeadingSpec)

end Rows
end Go.Proofs.Ytdinlgfkilmfeab
