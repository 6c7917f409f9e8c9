/-
  No cell of these rows narrows 'for every input' (looked for: loops, veiled, ifaces, maps, wideKeys, modest, calm, conditions, laid).
  DERIVED. THE GIVEN ROWS OF THIS SEAT. 9 by the template 'for every input the law returns true; each argument reads behind the call as it read before'; 0 by the template 'total and deterministic' (their statements: YtbiajaafdbbmgadTotals.lean).
  GIVEN WITH THE SEED: the statements are not yours to turn. If you find one false, say at which input.
  Laid BY PROGRAM, IN A SANDBOX (cutbox-rows.mjs): the forced cells as the released guide's own fill.sh prints them over the translation 9ba3d6a30d5dc6a5… (all of the seat's roots in one cut). By AI agents, Wed Nov 11 2026. No macro, syntax, notation, axiom, sorry.
-/
import Derived.Test.YtbiajaafdbbmgadChecked
import GoSem.Claim
import GoSem.ClaimJoined
import GoSem.ClaimMapViews
import Derived.JoinedTies
import Derived.KernelRfl
namespace Go.Proofs.Ytbiajaafdbbmgad
/- THE CELL 'sum', in the pinned program and in every row, IS THE sha256 OF THE DUMP (.gsa) THAT YtbiajaafdbbmgadProg.lean LOADS. Nothing in Lean hashes anything: it is a label: what it is worth is what the hold of that sum in a sandbox is worth. -/
noncomputable def Try.pinned : Pinned := { name := "ytbiajaafdbbmgad", sum := "9ba3d6a30d5dc6a5b10cba3576635c49d12603de47e62f67fd0a68b3bb7a6f1c", checked := Try.checked }
namespace Rows
def none {H : Type} : Left H := { results := [], args := [] }

/-- 'laws.FnTiltOf': WHATEVER THE INPUT: true; the input reads as it did. -/
def fnTiltOfSpec : ChangeSpec := { name := "fnTiltOf", fn := fun _ => fun
  | [d] => { results := [.lit (.bool true)], args := [d] }
  | _ => none }
def fnTiltOfRow : OpenClaim := { program := "ytbiajaafdbbmgad", sum := "9ba3d6a30d5dc6a5b10cba3576635c49d12603de47e62f67fd0a68b3bb7a6f1c", func := "loop.example/sundials/laws.FnTiltOf", spec := "fnTiltOf", recurses := true, apart := false }
def FnTiltOfSaid : Prop := fnTiltOfRow.holds Try.pinned (OpenSpec.ofChange fnTiltOfSpec)

/-- ITS FALSE NEIGHBOUR: 'it returns false'. Refute it at one input. -/
def fnTiltOfWrong : ChangeSpec := { name := "fnTiltOf", fn := fun _ => fun
  | [d] => { results := [.lit (.bool false)], args := [d] }
  | _ => none }
def FnTiltOfWrongFalsely : Prop := fnTiltOfRow.holds Try.pinned (OpenSpec.ofChange fnTiltOfWrong)

/-- 'laws.FnDaysLong': WHATEVER THE INPUT: true; the input reads as it did. -/
def fnDaysLongSpec : ChangeSpec := { name := "fnDaysLong", fn := fun _ => fun
  | [d] => { results := [.lit (.bool true)], args := [d] }
  | _ => none }
def fnDaysLongRow : OpenClaim := { program := "ytbiajaafdbbmgad", sum := "9ba3d6a30d5dc6a5b10cba3576635c49d12603de47e62f67fd0a68b3bb7a6f1c", func := "loop.example/sundials/laws.FnDaysLong", spec := "fnDaysLong", recurses := true, apart := false }
def FnDaysLongSaid : Prop := fnDaysLongRow.holds Try.pinned (OpenSpec.ofChange fnDaysLongSpec)

/-- ITS FALSE NEIGHBOUR: 'it returns false'. Refute it at one input. -/
def fnDaysLongWrong : ChangeSpec := { name := "fnDaysLong", fn := fun _ => fun
  | [d] => { results := [.lit (.bool false)], args := [d] }
  | _ => none }
def FnDaysLongWrongFalsely : Prop := fnDaysLongRow.holds Try.pinned (OpenSpec.ofChange fnDaysLongWrong)

/-- 'laws.FnClockError': WHATEVER THE INPUT: true; the input reads as it did. -/
def fnClockErrorSpec : ChangeSpec := { name := "fnClockError", fn := fun _ => fun
  | [d] => { results := [.lit (.bool true)], args := [d] }
  | _ => none }
def fnClockErrorRow : OpenClaim := { program := "ytbiajaafdbbmgad", sum := "9ba3d6a30d5dc6a5b10cba3576635c49d12603de47e62f67fd0a68b3bb7a6f1c", func := "loop.example/sundials/laws.FnClockError", spec := "fnClockError", recurses := true, apart := false }
def FnClockErrorSaid : Prop := fnClockErrorRow.holds Try.pinned (OpenSpec.ofChange fnClockErrorSpec)

/-- ITS FALSE NEIGHBOUR: 'it returns false'. Refute it at one input. -/
def fnClockErrorWrong : ChangeSpec := { name := "fnClockError", fn := fun _ => fun
  | [d] => { results := [.lit (.bool false)], args := [d] }
  | _ => none }
def FnClockErrorWrongFalsely : Prop := fnClockErrorRow.holds Try.pinned (OpenSpec.ofChange fnClockErrorWrong)

/-- 'laws.FnSunMinute': WHATEVER THE INPUT: true; the input reads as it did. -/
def fnSunMinuteSpec : ChangeSpec := { name := "fnSunMinute", fn := fun _ => fun
  | [d] => { results := [.lit (.bool true)], args := [d] }
  | _ => none }
def fnSunMinuteRow : OpenClaim := { program := "ytbiajaafdbbmgad", sum := "9ba3d6a30d5dc6a5b10cba3576635c49d12603de47e62f67fd0a68b3bb7a6f1c", func := "loop.example/sundials/laws.FnSunMinute", spec := "fnSunMinute", recurses := true, apart := false }
def FnSunMinuteSaid : Prop := fnSunMinuteRow.holds Try.pinned (OpenSpec.ofChange fnSunMinuteSpec)

/-- ITS FALSE NEIGHBOUR: 'it returns false'. Refute it at one input. -/
def fnSunMinuteWrong : ChangeSpec := { name := "fnSunMinute", fn := fun _ => fun
  | [d] => { results := [.lit (.bool false)], args := [d] }
  | _ => none }
def FnSunMinuteWrongFalsely : Prop := fnSunMinuteRow.holds Try.pinned (OpenSpec.ofChange fnSunMinuteWrong)

/-- 'laws.FnClockMinute': WHATEVER THE INPUT: true; the input reads as it did. -/
def fnClockMinuteSpec : ChangeSpec := { name := "fnClockMinute", fn := fun _ => fun
  | [d] => { results := [.lit (.bool true)], args := [d] }
  | _ => none }
def fnClockMinuteRow : OpenClaim := { program := "ytbiajaafdbbmgad", sum := "9ba3d6a30d5dc6a5b10cba3576635c49d12603de47e62f67fd0a68b3bb7a6f1c", func := "loop.example/sundials/laws.FnClockMinute", spec := "fnClockMinute", recurses := true, apart := false }
def FnClockMinuteSaid : Prop := fnClockMinuteRow.holds Try.pinned (OpenSpec.ofChange fnClockMinuteSpec)

/-- ITS FALSE NEIGHBOUR: 'it returns false'. Refute it at one input. -/
def fnClockMinuteWrong : ChangeSpec := { name := "fnClockMinute", fn := fun _ => fun
  | [d] => { results := [.lit (.bool false)], args := [d] }
  | _ => none }
def FnClockMinuteWrongFalsely : Prop := fnClockMinuteRow.holds Try.pinned (OpenSpec.ofChange fnClockMinuteWrong)

/-- 'laws.FnHourAngle': WHATEVER THE INPUT: true; the input reads as it did. -/
def fnHourAngleSpec : ChangeSpec := { name := "fnHourAngle", fn := fun _ => fun
  | [d] => { results := [.lit (.bool true)], args := [d] }
  | _ => none }
def fnHourAngleRow : OpenClaim := { program := "ytbiajaafdbbmgad", sum := "9ba3d6a30d5dc6a5b10cba3576635c49d12603de47e62f67fd0a68b3bb7a6f1c", func := "loop.example/sundials/laws.FnHourAngle", spec := "fnHourAngle", apart := false }
def FnHourAngleSaid : Prop := fnHourAngleRow.holds Try.pinned (OpenSpec.ofChange fnHourAngleSpec)

/-- ITS FALSE NEIGHBOUR: 'it returns false'. Refute it at one input. -/
def fnHourAngleWrong : ChangeSpec := { name := "fnHourAngle", fn := fun _ => fun
  | [d] => { results := [.lit (.bool false)], args := [d] }
  | _ => none }
def FnHourAngleWrongFalsely : Prop := fnHourAngleRow.holds Try.pinned (OpenSpec.ofChange fnHourAngleWrong)

/-- 'laws.FnSine': WHATEVER THE INPUT: true; the input reads as it did. -/
def fnSineSpec : ChangeSpec := { name := "fnSine", fn := fun _ => fun
  | [d] => { results := [.lit (.bool true)], args := [d] }
  | _ => none }
def fnSineRow : OpenClaim := { program := "ytbiajaafdbbmgad", sum := "9ba3d6a30d5dc6a5b10cba3576635c49d12603de47e62f67fd0a68b3bb7a6f1c", func := "loop.example/sundials/laws.FnSine", spec := "fnSine", recurses := true, apart := false }
def FnSineSaid : Prop := fnSineRow.holds Try.pinned (OpenSpec.ofChange fnSineSpec)

/-- ITS FALSE NEIGHBOUR: 'it returns false'. Refute it at one input. -/
def fnSineWrong : ChangeSpec := { name := "fnSine", fn := fun _ => fun
  | [d] => { results := [.lit (.bool false)], args := [d] }
  | _ => none }
def FnSineWrongFalsely : Prop := fnSineRow.holds Try.pinned (OpenSpec.ofChange fnSineWrong)

/-- 'laws.FnCosine': WHATEVER THE INPUT: true; the input reads as it did. -/
def fnCosineSpec : ChangeSpec := { name := "fnCosine", fn := fun _ => fun
  | [d] => { results := [.lit (.bool true)], args := [d] }
  | _ => none }
def fnCosineRow : OpenClaim := { program := "ytbiajaafdbbmgad", sum := "9ba3d6a30d5dc6a5b10cba3576635c49d12603de47e62f67fd0a68b3bb7a6f1c", func := "loop.example/sundials/laws.FnCosine", spec := "fnCosine", recurses := true, apart := false }
def FnCosineSaid : Prop := fnCosineRow.holds Try.pinned (OpenSpec.ofChange fnCosineSpec)

/-- ITS FALSE NEIGHBOUR: 'it returns false'. Refute it at one input. -/
def fnCosineWrong : ChangeSpec := { name := "fnCosine", fn := fun _ => fun
  | [d] => { results := [.lit (.bool false)], args := [d] }
  | _ => none }
def FnCosineWrongFalsely : Prop := fnCosineRow.holds Try.pinned (OpenSpec.ofChange fnCosineWrong)

/-- 'laws.FnHeading': WHATEVER THE INPUT: true; the input reads as it did. -/
def fnHeadingSpec : ChangeSpec := { name := "fnHeading", fn := fun _ => fun
  | [d] => { results := [.lit (.bool true)], args := [d] }
  | _ => none }
def fnHeadingRow : OpenClaim := { program := "ytbiajaafdbbmgad", sum := "9ba3d6a30d5dc6a5b10cba3576635c49d12603de47e62f67fd0a68b3bb7a6f1c", func := "loop.example/sundials/laws.FnHeading", spec := "fnHeading", recurses := true, apart := false }
def FnHeadingSaid : Prop := fnHeadingRow.holds Try.pinned (OpenSpec.ofChange fnHeadingSpec)

/-- ITS FALSE NEIGHBOUR: 'it returns false'. Refute it at one input. -/
def fnHeadingWrong : ChangeSpec := { name := "fnHeading", fn := fun _ => fun
  | [d] => { results := [.lit (.bool false)], args := [d] }
  | _ => none }
def FnHeadingWrongFalsely : Prop := fnHeadingRow.holds Try.pinned (OpenSpec.ofChange fnHeadingWrong)

/- THE SECOND FORM. 'bulk': how many values and letters a reading holds, each counted each time it is reached (what is shared counts as often as it is met; a slice's spare places count too). A statement '..UptoSaid' is the law's where the arguments, and the package variables that the reading takes, are together of bulk at most 1048576: NARROWER than '..Said'. Prove '..Said' where nothing that the law and all that it calls make is longer than what came in: it says more and counts as full. Else prove '..UptoSaid'. A law counts once. -/
mutual
def uptoBulk {H : Type} : DataW H → Nat
  | .lit (.string bytes) => bytes.length + 1
  | .lit _ => 1
  | .nil => 1
  | .ptr d => uptoBulk d + 1
  | .slice elems spare => uptoBulkAll elems + uptoBulkAll spare + 1
  | .agg parts => uptoBulkAll parts + 1
  | .iface _ d => uptoBulk d + 1
  | .map entries => uptoBulkEntries entries + 1
  | .held _ => 1
def uptoBulkAll {H : Type} : List (DataW H) → Nat
  | [] => 0
  | d :: r => uptoBulk d + uptoBulkAll r
def uptoBulkEntries {H : Type} : List (Lit × DataW H) → Nat
  | [] => 0
  | x :: r => uptoBulkEntry x + uptoBulkEntries r
def uptoBulkEntry {H : Type} : Lit × DataW H → Nat
  | (.string bytes, d) => bytes.length + uptoBulk d + 1
  | (_, d) => uptoBulk d + 1
 end
def uptoSmall : (H : Type) → List (DataW H) → Bool := fun _ ds => decide (uptoBulkAll ds ≤ 1048576)
def OpenSpec.upto (s : _root_.Go.ChangeSpec) : _root_.Go.OpenSpec := { _root_.Go.OpenSpec.ofChange s with cond := some uptoSmall }

/-- 'laws.FnTiltOf', WHERE WHAT IT READS IS OF BULK AT MOST 1048576: true; the input reads as it did. -/
def fnTiltOfUptoRow : OpenClaim := { program := "ytbiajaafdbbmgad", sum := "9ba3d6a30d5dc6a5b10cba3576635c49d12603de47e62f67fd0a68b3bb7a6f1c", func := "loop.example/sundials/laws.FnTiltOf", spec := "fnTiltOf", recurses := true, apart := false, narrowed := true }
def FnTiltOfUptoSaid : Prop := fnTiltOfUptoRow.holds Try.pinned (OpenSpec.upto fnTiltOfSpec)

/-- 'laws.FnDaysLong', WHERE WHAT IT READS IS OF BULK AT MOST 1048576: true; the input reads as it did. -/
def fnDaysLongUptoRow : OpenClaim := { program := "ytbiajaafdbbmgad", sum := "9ba3d6a30d5dc6a5b10cba3576635c49d12603de47e62f67fd0a68b3bb7a6f1c", func := "loop.example/sundials/laws.FnDaysLong", spec := "fnDaysLong", recurses := true, apart := false, narrowed := true }
def FnDaysLongUptoSaid : Prop := fnDaysLongUptoRow.holds Try.pinned (OpenSpec.upto fnDaysLongSpec)

/-- 'laws.FnClockError', WHERE WHAT IT READS IS OF BULK AT MOST 1048576: true; the input reads as it did. -/
def fnClockErrorUptoRow : OpenClaim := { program := "ytbiajaafdbbmgad", sum := "9ba3d6a30d5dc6a5b10cba3576635c49d12603de47e62f67fd0a68b3bb7a6f1c", func := "loop.example/sundials/laws.FnClockError", spec := "fnClockError", recurses := true, apart := false, narrowed := true }
def FnClockErrorUptoSaid : Prop := fnClockErrorUptoRow.holds Try.pinned (OpenSpec.upto fnClockErrorSpec)

/-- 'laws.FnSunMinute', WHERE WHAT IT READS IS OF BULK AT MOST 1048576: true; the input reads as it did. -/
def fnSunMinuteUptoRow : OpenClaim := { program := "ytbiajaafdbbmgad", sum := "9ba3d6a30d5dc6a5b10cba3576635c49d12603de47e62f67fd0a68b3bb7a6f1c", func := "loop.example/sundials/laws.FnSunMinute", spec := "fnSunMinute", recurses := true, apart := false, narrowed := true }
def FnSunMinuteUptoSaid : Prop := fnSunMinuteUptoRow.holds Try.pinned (OpenSpec.upto fnSunMinuteSpec)

/-- 'laws.FnClockMinute', WHERE WHAT IT READS IS OF BULK AT MOST 1048576: true; the input reads as it did. -/
def fnClockMinuteUptoRow : OpenClaim := { program := "ytbiajaafdbbmgad", sum := "9ba3d6a30d5dc6a5b10cba3576635c49d12603de47e62f67fd0a68b3bb7a6f1c", func := "loop.example/sundials/laws.FnClockMinute", spec := "fnClockMinute", recurses := true, apart := false, narrowed := true }
def FnClockMinuteUptoSaid : Prop := fnClockMinuteUptoRow.holds Try.pinned (OpenSpec.upto fnClockMinuteSpec)

/-- 'laws.FnHourAngle', WHERE WHAT IT READS IS OF BULK AT MOST 1048576: true; the input reads as it did. -/
def fnHourAngleUptoRow : OpenClaim := { program := "ytbiajaafdbbmgad", sum := "9ba3d6a30d5dc6a5b10cba3576635c49d12603de47e62f67fd0a68b3bb7a6f1c", func := "loop.example/sundials/laws.FnHourAngle", spec := "fnHourAngle", apart := false, narrowed := true }
def FnHourAngleUptoSaid : Prop := fnHourAngleUptoRow.holds Try.pinned (OpenSpec.upto fnHourAngleSpec)

/-- 'laws.FnSine', WHERE WHAT IT READS IS OF BULK AT MOST 1048576: true; the input reads as it did. -/
def fnSineUptoRow : OpenClaim := { program := "ytbiajaafdbbmgad", sum := "9ba3d6a30d5dc6a5b10cba3576635c49d12603de47e62f67fd0a68b3bb7a6f1c", func := "loop.example/sundials/laws.FnSine", spec := "fnSine", recurses := true, apart := false, narrowed := true }
def FnSineUptoSaid : Prop := fnSineUptoRow.holds Try.pinned (OpenSpec.upto fnSineSpec)

/-- 'laws.FnCosine', WHERE WHAT IT READS IS OF BULK AT MOST 1048576: true; the input reads as it did. -/
def fnCosineUptoRow : OpenClaim := { program := "ytbiajaafdbbmgad", sum := "9ba3d6a30d5dc6a5b10cba3576635c49d12603de47e62f67fd0a68b3bb7a6f1c", func := "loop.example/sundials/laws.FnCosine", spec := "fnCosine", recurses := true, apart := false, narrowed := true }
def FnCosineUptoSaid : Prop := fnCosineUptoRow.holds Try.pinned (OpenSpec.upto fnCosineSpec)

/-- 'laws.FnHeading', WHERE WHAT IT READS IS OF BULK AT MOST 1048576: true; the input reads as it did. -/
def fnHeadingUptoRow : OpenClaim := { program := "ytbiajaafdbbmgad", sum := "9ba3d6a30d5dc6a5b10cba3576635c49d12603de47e62f67fd0a68b3bb7a6f1c", func := "loop.example/sundials/laws.FnHeading", spec := "fnHeading", recurses := true, apart := false, narrowed := true }
def FnHeadingUptoSaid : Prop := fnHeadingUptoRow.holds Try.pinned (OpenSpec.upto fnHeadingSpec)

end Rows
end Go.Proofs.Ytbiajaafdbbmgad
