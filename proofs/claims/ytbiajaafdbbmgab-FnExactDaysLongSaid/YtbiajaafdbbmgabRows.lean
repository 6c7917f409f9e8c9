/-
  No cell of these rows narrows 'for every input' (looked for: loops, veiled, ifaces, maps, wideKeys, modest, calm, conditions, laid).
  DERIVED. THE GIVEN ROWS OF THIS SEAT. 9 by the template 'for every input the law returns true; each argument reads behind the call as it read before'; 0 by the template 'total and deterministic' (their statements: YtbiajaafdbbmgabTotals.lean).
  GIVEN WITH THE SEED: the statements are not yours to turn. If you find one false, say at which input.
  Laid BY PROGRAM, IN A SANDBOX (cutbox-rows.mjs): the forced cells as the released guide's own fill.sh prints them over the translation edd59761c27f1126… (all of the seat's roots in one cut). By AI agents, Wed Nov 11 2026. No macro, syntax, notation, axiom, sorry.
-/
import Derived.Test.YtbiajaafdbbmgabChecked
import GoSem.Claim
import GoSem.ClaimJoined
import GoSem.ClaimMapViews
import Derived.JoinedTies
import Derived.KernelRfl
namespace Go.Proofs.Ytbiajaafdbbmgab
/- THE CELL 'sum', in the pinned program and in every row, IS THE sha256 OF THE DUMP (.gsa) THAT YtbiajaafdbbmgabProg.lean LOADS. Nothing in Lean hashes anything: it is a label: what it is worth is what the hold of that sum in a sandbox is worth. -/
noncomputable def Try.pinned : Pinned := { name := "ytbiajaafdbbmgab", sum := "edd59761c27f1126c9e1d77893ade270483b1fb6904ee77248465220730ae77e", checked := Try.checked }
namespace Rows
def none {H : Type} : Left H := { results := [], args := [] }

/-- 'laws.FnExactTiltOf': WHATEVER THE INPUT: true; the input reads as it did. -/
def fnExactTiltOfSpec : ChangeSpec := { name := "fnExactTiltOf", fn := fun _ => fun
  | [d] => { results := [.lit (.bool true)], args := [d] }
  | _ => none }
def fnExactTiltOfRow : OpenClaim := { program := "ytbiajaafdbbmgab", sum := "edd59761c27f1126c9e1d77893ade270483b1fb6904ee77248465220730ae77e", func := "loop.example/sundials/laws.FnExactTiltOf", spec := "fnExactTiltOf", recurses := true, apart := false }
def FnExactTiltOfSaid : Prop := fnExactTiltOfRow.holds Try.pinned (OpenSpec.ofChange fnExactTiltOfSpec)

/-- ITS FALSE NEIGHBOUR: 'it returns false'. Refute it at one input. -/
def fnExactTiltOfWrong : ChangeSpec := { name := "fnExactTiltOf", fn := fun _ => fun
  | [d] => { results := [.lit (.bool false)], args := [d] }
  | _ => none }
def FnExactTiltOfWrongFalsely : Prop := fnExactTiltOfRow.holds Try.pinned (OpenSpec.ofChange fnExactTiltOfWrong)

/-- 'laws.FnExactDaysLong': WHATEVER THE INPUT: true; the input reads as it did. -/
def fnExactDaysLongSpec : ChangeSpec := { name := "fnExactDaysLong", fn := fun _ => fun
  | [d1, d2] => { results := [.lit (.bool true)], args := [d1, d2] }
  | _ => none }
def fnExactDaysLongRow : OpenClaim := { program := "ytbiajaafdbbmgab", sum := "edd59761c27f1126c9e1d77893ade270483b1fb6904ee77248465220730ae77e", func := "loop.example/sundials/laws.FnExactDaysLong", spec := "fnExactDaysLong", recurses := true, apart := false }
def FnExactDaysLongSaid : Prop := fnExactDaysLongRow.holds Try.pinned (OpenSpec.ofChange fnExactDaysLongSpec)

/-- ITS FALSE NEIGHBOUR: 'it returns false'. Refute it at one input. -/
def fnExactDaysLongWrong : ChangeSpec := { name := "fnExactDaysLong", fn := fun _ => fun
  | [d1, d2] => { results := [.lit (.bool false)], args := [d1, d2] }
  | _ => none }
def FnExactDaysLongWrongFalsely : Prop := fnExactDaysLongRow.holds Try.pinned (OpenSpec.ofChange fnExactDaysLongWrong)

/-- 'laws.FnExactClockError': WHATEVER THE INPUT: true; the input reads as it did. -/
def fnExactClockErrorSpec : ChangeSpec := { name := "fnExactClockError", fn := fun _ => fun
  | [d] => { results := [.lit (.bool true)], args := [d] }
  | _ => none }
def fnExactClockErrorRow : OpenClaim := { program := "ytbiajaafdbbmgab", sum := "edd59761c27f1126c9e1d77893ade270483b1fb6904ee77248465220730ae77e", func := "loop.example/sundials/laws.FnExactClockError", spec := "fnExactClockError", recurses := true, apart := false }
def FnExactClockErrorSaid : Prop := fnExactClockErrorRow.holds Try.pinned (OpenSpec.ofChange fnExactClockErrorSpec)

/-- ITS FALSE NEIGHBOUR: 'it returns false'. Refute it at one input. -/
def fnExactClockErrorWrong : ChangeSpec := { name := "fnExactClockError", fn := fun _ => fun
  | [d] => { results := [.lit (.bool false)], args := [d] }
  | _ => none }
def FnExactClockErrorWrongFalsely : Prop := fnExactClockErrorRow.holds Try.pinned (OpenSpec.ofChange fnExactClockErrorWrong)

/-- 'laws.FnExactSunMinute': WHATEVER THE INPUT: true; the input reads as it did. -/
def fnExactSunMinuteSpec : ChangeSpec := { name := "fnExactSunMinute", fn := fun _ => fun
  | [d1, d2, d3, d4] => { results := [.lit (.bool true)], args := [d1, d2, d3, d4] }
  | _ => none }
def fnExactSunMinuteRow : OpenClaim := { program := "ytbiajaafdbbmgab", sum := "edd59761c27f1126c9e1d77893ade270483b1fb6904ee77248465220730ae77e", func := "loop.example/sundials/laws.FnExactSunMinute", spec := "fnExactSunMinute", recurses := true, apart := false }
def FnExactSunMinuteSaid : Prop := fnExactSunMinuteRow.holds Try.pinned (OpenSpec.ofChange fnExactSunMinuteSpec)

/-- ITS FALSE NEIGHBOUR: 'it returns false'. Refute it at one input. -/
def fnExactSunMinuteWrong : ChangeSpec := { name := "fnExactSunMinute", fn := fun _ => fun
  | [d1, d2, d3, d4] => { results := [.lit (.bool false)], args := [d1, d2, d3, d4] }
  | _ => none }
def FnExactSunMinuteWrongFalsely : Prop := fnExactSunMinuteRow.holds Try.pinned (OpenSpec.ofChange fnExactSunMinuteWrong)

/-- 'laws.FnExactClockMinute': WHATEVER THE INPUT: true; the input reads as it did. -/
def fnExactClockMinuteSpec : ChangeSpec := { name := "fnExactClockMinute", fn := fun _ => fun
  | [d1, d2, d3, d4] => { results := [.lit (.bool true)], args := [d1, d2, d3, d4] }
  | _ => none }
def fnExactClockMinuteRow : OpenClaim := { program := "ytbiajaafdbbmgab", sum := "edd59761c27f1126c9e1d77893ade270483b1fb6904ee77248465220730ae77e", func := "loop.example/sundials/laws.FnExactClockMinute", spec := "fnExactClockMinute", recurses := true, apart := false }
def FnExactClockMinuteSaid : Prop := fnExactClockMinuteRow.holds Try.pinned (OpenSpec.ofChange fnExactClockMinuteSpec)

/-- ITS FALSE NEIGHBOUR: 'it returns false'. Refute it at one input. -/
def fnExactClockMinuteWrong : ChangeSpec := { name := "fnExactClockMinute", fn := fun _ => fun
  | [d1, d2, d3, d4] => { results := [.lit (.bool false)], args := [d1, d2, d3, d4] }
  | _ => none }
def FnExactClockMinuteWrongFalsely : Prop := fnExactClockMinuteRow.holds Try.pinned (OpenSpec.ofChange fnExactClockMinuteWrong)

/-- 'laws.FnExactHourAngle': WHATEVER THE INPUT: true; the input reads as it did. -/
def fnExactHourAngleSpec : ChangeSpec := { name := "fnExactHourAngle", fn := fun _ => fun
  | [d] => { results := [.lit (.bool true)], args := [d] }
  | _ => none }
def fnExactHourAngleRow : OpenClaim := { program := "ytbiajaafdbbmgab", sum := "edd59761c27f1126c9e1d77893ade270483b1fb6904ee77248465220730ae77e", func := "loop.example/sundials/laws.FnExactHourAngle", spec := "fnExactHourAngle", apart := false }
def FnExactHourAngleSaid : Prop := fnExactHourAngleRow.holds Try.pinned (OpenSpec.ofChange fnExactHourAngleSpec)

/-- ITS FALSE NEIGHBOUR: 'it returns false'. Refute it at one input. -/
def fnExactHourAngleWrong : ChangeSpec := { name := "fnExactHourAngle", fn := fun _ => fun
  | [d] => { results := [.lit (.bool false)], args := [d] }
  | _ => none }
def FnExactHourAngleWrongFalsely : Prop := fnExactHourAngleRow.holds Try.pinned (OpenSpec.ofChange fnExactHourAngleWrong)

/-- 'laws.FnExactSine': WHATEVER THE INPUT: true; the input reads as it did. -/
def fnExactSineSpec : ChangeSpec := { name := "fnExactSine", fn := fun _ => fun
  | [d] => { results := [.lit (.bool true)], args := [d] }
  | _ => none }
def fnExactSineRow : OpenClaim := { program := "ytbiajaafdbbmgab", sum := "edd59761c27f1126c9e1d77893ade270483b1fb6904ee77248465220730ae77e", func := "loop.example/sundials/laws.FnExactSine", spec := "fnExactSine", recurses := true, apart := false }
def FnExactSineSaid : Prop := fnExactSineRow.holds Try.pinned (OpenSpec.ofChange fnExactSineSpec)

/-- ITS FALSE NEIGHBOUR: 'it returns false'. Refute it at one input. -/
def fnExactSineWrong : ChangeSpec := { name := "fnExactSine", fn := fun _ => fun
  | [d] => { results := [.lit (.bool false)], args := [d] }
  | _ => none }
def FnExactSineWrongFalsely : Prop := fnExactSineRow.holds Try.pinned (OpenSpec.ofChange fnExactSineWrong)

/-- 'laws.FnExactCosine': WHATEVER THE INPUT: true; the input reads as it did. -/
def fnExactCosineSpec : ChangeSpec := { name := "fnExactCosine", fn := fun _ => fun
  | [d] => { results := [.lit (.bool true)], args := [d] }
  | _ => none }
def fnExactCosineRow : OpenClaim := { program := "ytbiajaafdbbmgab", sum := "edd59761c27f1126c9e1d77893ade270483b1fb6904ee77248465220730ae77e", func := "loop.example/sundials/laws.FnExactCosine", spec := "fnExactCosine", recurses := true, apart := false }
def FnExactCosineSaid : Prop := fnExactCosineRow.holds Try.pinned (OpenSpec.ofChange fnExactCosineSpec)

/-- ITS FALSE NEIGHBOUR: 'it returns false'. Refute it at one input. -/
def fnExactCosineWrong : ChangeSpec := { name := "fnExactCosine", fn := fun _ => fun
  | [d] => { results := [.lit (.bool false)], args := [d] }
  | _ => none }
def FnExactCosineWrongFalsely : Prop := fnExactCosineRow.holds Try.pinned (OpenSpec.ofChange fnExactCosineWrong)

/-- 'laws.FnExactHeading': WHATEVER THE INPUT: true; the input reads as it did. -/
def fnExactHeadingSpec : ChangeSpec := { name := "fnExactHeading", fn := fun _ => fun
  | [d] => { results := [.lit (.bool true)], args := [d] }
  | _ => none }
def fnExactHeadingRow : OpenClaim := { program := "ytbiajaafdbbmgab", sum := "edd59761c27f1126c9e1d77893ade270483b1fb6904ee77248465220730ae77e", func := "loop.example/sundials/laws.FnExactHeading", spec := "fnExactHeading", recurses := true, apart := false }
def FnExactHeadingSaid : Prop := fnExactHeadingRow.holds Try.pinned (OpenSpec.ofChange fnExactHeadingSpec)

/-- ITS FALSE NEIGHBOUR: 'it returns false'. Refute it at one input. -/
def fnExactHeadingWrong : ChangeSpec := { name := "fnExactHeading", fn := fun _ => fun
  | [d] => { results := [.lit (.bool false)], args := [d] }
  | _ => none }
def FnExactHeadingWrongFalsely : Prop := fnExactHeadingRow.holds Try.pinned (OpenSpec.ofChange fnExactHeadingWrong)

/- THE SECOND FORM. 'bulk': how many values and letters a reading holds, each counted each time it is reached (what is shared counts as often as it is met; a slice's spare places count too). A statement '..UptoSaid' is the law's where the arguments, and the package variables that the reading takes, are together of bulk at most 1048576: NARROWER than '..Said'. Prove '..Said' where nothing that the law and all that it calls make is longer than what came in: it says more and counts as full. Else prove '..UptoSaid'. A law counts once. -/
mutual
def uptoBulk {H : Type} : DataW H → Nat
  | .lit (.string bytes) => bytes.length + 1
  | .lit _ => 1
  | .nil => 1
  | .ptr d => uptoBulk d + 1
  | .slice elems spare => uptoBulkAll elems + uptoBulkAll spare + 1
  | .agg parts => uptoBulkAll parts + 1
  | .iface _ d => uptoBulk d + 1
  | .map entries => uptoBulkEntries entries + 1
  | .held _ => 1
def uptoBulkAll {H : Type} : List (DataW H) → Nat
  | [] => 0
  | d :: r => uptoBulk d + uptoBulkAll r
def uptoBulkEntries {H : Type} : List (Lit × DataW H) → Nat
  | [] => 0
  | x :: r => uptoBulkEntry x + uptoBulkEntries r
def uptoBulkEntry {H : Type} : Lit × DataW H → Nat
  | (.string bytes, d) => bytes.length + uptoBulk d + 1
  | (_, d) => uptoBulk d + 1
 end
def uptoSmall : (H : Type) → List (DataW H) → Bool := fun _ ds => decide (uptoBulkAll ds ≤ 1048576)
def OpenSpec.upto (s : _root_.Go.ChangeSpec) : _root_.Go.OpenSpec := { _root_.Go.OpenSpec.ofChange s with cond := some uptoSmall }

/-- 'laws.FnExactTiltOf', WHERE WHAT IT READS IS OF BULK AT MOST 1048576: true; the input reads as it did. -/
def fnExactTiltOfUptoRow : OpenClaim := { program := "ytbiajaafdbbmgab", sum := "edd59761c27f1126c9e1d77893ade270483b1fb6904ee77248465220730ae77e", func := "loop.example/sundials/laws.FnExactTiltOf", spec := "fnExactTiltOf", recurses := true, apart := false, narrowed := true }
def FnExactTiltOfUptoSaid : Prop := fnExactTiltOfUptoRow.holds Try.pinned (OpenSpec.upto fnExactTiltOfSpec)

/-- 'laws.FnExactDaysLong', WHERE WHAT IT READS IS OF BULK AT MOST 1048576: true; the input reads as it did. -/
def fnExactDaysLongUptoRow : OpenClaim := { program := "ytbiajaafdbbmgab", sum := "edd59761c27f1126c9e1d77893ade270483b1fb6904ee77248465220730ae77e", func := "loop.example/sundials/laws.FnExactDaysLong", spec := "fnExactDaysLong", recurses := true, apart := false, narrowed := true }
def FnExactDaysLongUptoSaid : Prop := fnExactDaysLongUptoRow.holds Try.pinned (OpenSpec.upto fnExactDaysLongSpec)

/-- 'laws.FnExactClockError', WHERE WHAT IT READS IS OF BULK AT MOST 1048576: true; the input reads as it did. -/
def fnExactClockErrorUptoRow : OpenClaim := { program := "ytbiajaafdbbmgab", sum := "edd59761c27f1126c9e1d77893ade270483b1fb6904ee77248465220730ae77e", func := "loop.example/sundials/laws.FnExactClockError", spec := "fnExactClockError", recurses := true, apart := false, narrowed := true }
def FnExactClockErrorUptoSaid : Prop := fnExactClockErrorUptoRow.holds Try.pinned (OpenSpec.upto fnExactClockErrorSpec)

/-- 'laws.FnExactSunMinute', WHERE WHAT IT READS IS OF BULK AT MOST 1048576: true; the input reads as it did. -/
def fnExactSunMinuteUptoRow : OpenClaim := { program := "ytbiajaafdbbmgab", sum := "edd59761c27f1126c9e1d77893ade270483b1fb6904ee77248465220730ae77e", func := "loop.example/sundials/laws.FnExactSunMinute", spec := "fnExactSunMinute", recurses := true, apart := false, narrowed := true }
def FnExactSunMinuteUptoSaid : Prop := fnExactSunMinuteUptoRow.holds Try.pinned (OpenSpec.upto fnExactSunMinuteSpec)

/-- 'laws.FnExactClockMinute', WHERE WHAT IT READS IS OF BULK AT MOST 1048576: true; the input reads as it did. -/
def fnExactClockMinuteUptoRow : OpenClaim := { program := "ytbiajaafdbbmgab", sum := "edd59761c27f1126c9e1d77893ade270483b1fb6904ee77248465220730ae77e", func := "loop.example/sundials/laws.FnExactClockMinute", spec := "fnExactClockMinute", recurses := true, apart := false, narrowed := true }
def FnExactClockMinuteUptoSaid : Prop := fnExactClockMinuteUptoRow.holds Try.pinned (OpenSpec.upto fnExactClockMinuteSpec)

/-- 'laws.FnExactHourAngle', WHERE WHAT IT READS IS OF BULK AT MOST 1048576: true; the input reads as it did. -/
def fnExactHourAngleUptoRow : OpenClaim := { program := "ytbiajaafdbbmgab", sum := "edd59761c27f1126c9e1d77893ade270483b1fb6904ee77248465220730ae77e", func := "loop.example/sundials/laws.FnExactHourAngle", spec := "fnExactHourAngle", apart := false, narrowed := true }
def FnExactHourAngleUptoSaid : Prop := fnExactHourAngleUptoRow.holds Try.pinned (OpenSpec.upto fnExactHourAngleSpec)

/-- 'laws.FnExactSine', WHERE WHAT IT READS IS OF BULK AT MOST 1048576: true; the input reads as it did. -/
def fnExactSineUptoRow : OpenClaim := { program := "ytbiajaafdbbmgab", sum := "edd59761c27f1126c9e1d77893ade270483b1fb6904ee77248465220730ae77e", func := "loop.example/sundials/laws.FnExactSine", spec := "fnExactSine", recurses := true, apart := false, narrowed := true }
def FnExactSineUptoSaid : Prop := fnExactSineUptoRow.holds Try.pinned (OpenSpec.upto fnExactSineSpec)

/-- 'laws.FnExactCosine', WHERE WHAT IT READS IS OF BULK AT MOST 1048576: true; the input reads as it did. -/
def fnExactCosineUptoRow : OpenClaim := { program := "ytbiajaafdbbmgab", sum := "edd59761c27f1126c9e1d77893ade270483b1fb6904ee77248465220730ae77e", func := "loop.example/sundials/laws.FnExactCosine", spec := "fnExactCosine", recurses := true, apart := false, narrowed := true }
def FnExactCosineUptoSaid : Prop := fnExactCosineUptoRow.holds Try.pinned (OpenSpec.upto fnExactCosineSpec)

/-- 'laws.FnExactHeading', WHERE WHAT IT READS IS OF BULK AT MOST 1048576: true; the input reads as it did. -/
def fnExactHeadingUptoRow : OpenClaim := { program := "ytbiajaafdbbmgab", sum := "edd59761c27f1126c9e1d77893ade270483b1fb6904ee77248465220730ae77e", func := "loop.example/sundials/laws.FnExactHeading", spec := "fnExactHeading", recurses := true, apart := false, narrowed := true }
def FnExactHeadingUptoSaid : Prop := fnExactHeadingUptoRow.holds Try.pinned (OpenSpec.upto fnExactHeadingSpec)

end Rows
end Go.Proofs.Ytbiajaafdbbmgab
