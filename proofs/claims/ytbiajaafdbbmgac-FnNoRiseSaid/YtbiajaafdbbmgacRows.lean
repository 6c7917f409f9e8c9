/-
  No cell of these rows narrows 'for every input' (looked for: loops, veiled, ifaces, maps, wideKeys, modest, calm, conditions, laid).
  DERIVED. THE GIVEN ROWS OF THIS SEAT. 9 by the template 'for every input the law returns true; each argument reads behind the call as it read before'; 0 by the template 'total and deterministic' (their statements: YtbiajaafdbbmgacTotals.lean).
  GIVEN WITH THE SEED: the statements are not yours to turn. If you find one false, say at which input.
  Laid BY PROGRAM, IN A SANDBOX (cutbox-rows.mjs): the forced cells as the released guide's own fill.sh prints them over the translation 0268c6aa0cde66f4… (all of the seat's roots in one cut). By AI agents, Wed Nov 11 2026. No macro, syntax, notation, axiom, sorry.
-/
import Derived.Test.YtbiajaafdbbmgacChecked
import GoSem.Claim
import GoSem.ClaimJoined
import GoSem.ClaimMapViews
import Derived.JoinedTies
import Derived.KernelRfl
namespace Go.Proofs.Ytbiajaafdbbmgac
/- THE CELL 'sum', in the pinned program and in every row, IS THE sha256 OF THE DUMP (.gsa) THAT YtbiajaafdbbmgacProg.lean LOADS. Nothing in Lean hashes anything: it is a label: what it is worth is what the hold of that sum in a sandbox is worth. -/
noncomputable def Try.pinned : Pinned := { name := "ytbiajaafdbbmgac", sum := "0268c6aa0cde66f44a9ed293436d34d0336926aed2fbdc780c743fbecdf09e92", checked := Try.checked }
namespace Rows
def none {H : Type} : Left H := { results := [], args := [] }

/-- 'laws.FnSkyValid': WHATEVER THE INPUT: true; the input reads as it did. -/
def fnSkyValidSpec : ChangeSpec := { name := "fnSkyValid", fn := fun _ => fun
  | [d] => { results := [.lit (.bool true)], args := [d] }
  | _ => none }
def fnSkyValidRow : OpenClaim := { program := "ytbiajaafdbbmgac", sum := "0268c6aa0cde66f44a9ed293436d34d0336926aed2fbdc780c743fbecdf09e92", func := "loop.example/sundials/laws.FnSkyValid", spec := "fnSkyValid", apart := false }
def FnSkyValidSaid : Prop := fnSkyValidRow.holds Try.pinned (OpenSpec.ofChange fnSkyValidSpec)

/-- ITS FALSE NEIGHBOUR: 'it returns false'. Refute it at one input. -/
def fnSkyValidWrong : ChangeSpec := { name := "fnSkyValid", fn := fun _ => fun
  | [d] => { results := [.lit (.bool false)], args := [d] }
  | _ => none }
def FnSkyValidWrongFalsely : Prop := fnSkyValidRow.holds Try.pinned (OpenSpec.ofChange fnSkyValidWrong)

/-- 'laws.FnSunAt': WHATEVER THE INPUT: true; the input reads as it did. -/
def fnSunAtSpec : ChangeSpec := { name := "fnSunAt", fn := fun _ => fun
  | [d] => { results := [.lit (.bool true)], args := [d] }
  | _ => none }
def fnSunAtRow : OpenClaim := { program := "ytbiajaafdbbmgac", sum := "0268c6aa0cde66f44a9ed293436d34d0336926aed2fbdc780c743fbecdf09e92", func := "loop.example/sundials/laws.FnSunAt", spec := "fnSunAt", recurses := true, apart := false }
def FnSunAtSaid : Prop := fnSunAtRow.holds Try.pinned (OpenSpec.ofChange fnSunAtSpec)

/-- ITS FALSE NEIGHBOUR: 'it returns false'. Refute it at one input. -/
def fnSunAtWrong : ChangeSpec := { name := "fnSunAt", fn := fun _ => fun
  | [d] => { results := [.lit (.bool false)], args := [d] }
  | _ => none }
def FnSunAtWrongFalsely : Prop := fnSunAtRow.holds Try.pinned (OpenSpec.ofChange fnSunAtWrong)

/-- 'laws.FnSunUp': WHATEVER THE INPUT: true; the input reads as it did. -/
def fnSunUpSpec : ChangeSpec := { name := "fnSunUp", fn := fun _ => fun
  | [d] => { results := [.lit (.bool true)], args := [d] }
  | _ => none }
def fnSunUpRow : OpenClaim := { program := "ytbiajaafdbbmgac", sum := "0268c6aa0cde66f44a9ed293436d34d0336926aed2fbdc780c743fbecdf09e92", func := "loop.example/sundials/laws.FnSunUp", spec := "fnSunUp", recurses := true, apart := false }
def FnSunUpSaid : Prop := fnSunUpRow.holds Try.pinned (OpenSpec.ofChange fnSunUpSpec)

/-- ITS FALSE NEIGHBOUR: 'it returns false'. Refute it at one input. -/
def fnSunUpWrong : ChangeSpec := { name := "fnSunUp", fn := fun _ => fun
  | [d] => { results := [.lit (.bool false)], args := [d] }
  | _ => none }
def FnSunUpWrongFalsely : Prop := fnSunUpRow.holds Try.pinned (OpenSpec.ofChange fnSunUpWrong)

/-- 'laws.FnDayLong': WHATEVER THE INPUT: true; the input reads as it did. -/
def fnDayLongSpec : ChangeSpec := { name := "fnDayLong", fn := fun _ => fun
  | [d] => { results := [.lit (.bool true)], args := [d] }
  | _ => none }
def fnDayLongRow : OpenClaim := { program := "ytbiajaafdbbmgac", sum := "0268c6aa0cde66f44a9ed293436d34d0336926aed2fbdc780c743fbecdf09e92", func := "loop.example/sundials/laws.FnDayLong", spec := "fnDayLong", recurses := true, apart := false }
def FnDayLongSaid : Prop := fnDayLongRow.holds Try.pinned (OpenSpec.ofChange fnDayLongSpec)

/-- ITS FALSE NEIGHBOUR: 'it returns false'. Refute it at one input. -/
def fnDayLongWrong : ChangeSpec := { name := "fnDayLong", fn := fun _ => fun
  | [d] => { results := [.lit (.bool false)], args := [d] }
  | _ => none }
def FnDayLongWrongFalsely : Prop := fnDayLongRow.holds Try.pinned (OpenSpec.ofChange fnDayLongWrong)

/-- 'laws.FnNightLong': WHATEVER THE INPUT: true; the input reads as it did. -/
def fnNightLongSpec : ChangeSpec := { name := "fnNightLong", fn := fun _ => fun
  | [d] => { results := [.lit (.bool true)], args := [d] }
  | _ => none }
def fnNightLongRow : OpenClaim := { program := "ytbiajaafdbbmgac", sum := "0268c6aa0cde66f44a9ed293436d34d0336926aed2fbdc780c743fbecdf09e92", func := "loop.example/sundials/laws.FnNightLong", spec := "fnNightLong", recurses := true, apart := false }
def FnNightLongSaid : Prop := fnNightLongRow.holds Try.pinned (OpenSpec.ofChange fnNightLongSpec)

/-- ITS FALSE NEIGHBOUR: 'it returns false'. Refute it at one input. -/
def fnNightLongWrong : ChangeSpec := { name := "fnNightLong", fn := fun _ => fun
  | [d] => { results := [.lit (.bool false)], args := [d] }
  | _ => none }
def FnNightLongWrongFalsely : Prop := fnNightLongRow.holds Try.pinned (OpenSpec.ofChange fnNightLongWrong)

/-- 'laws.FnEdgeLong': WHATEVER THE INPUT: true; the input reads as it did. -/
def fnEdgeLongSpec : ChangeSpec := { name := "fnEdgeLong", fn := fun _ => fun
  | [d] => { results := [.lit (.bool true)], args := [d] }
  | _ => none }
def fnEdgeLongRow : OpenClaim := { program := "ytbiajaafdbbmgac", sum := "0268c6aa0cde66f44a9ed293436d34d0336926aed2fbdc780c743fbecdf09e92", func := "loop.example/sundials/laws.FnEdgeLong", spec := "fnEdgeLong", recurses := true, apart := false }
def FnEdgeLongSaid : Prop := fnEdgeLongRow.holds Try.pinned (OpenSpec.ofChange fnEdgeLongSpec)

/-- ITS FALSE NEIGHBOUR: 'it returns false'. Refute it at one input. -/
def fnEdgeLongWrong : ChangeSpec := { name := "fnEdgeLong", fn := fun _ => fun
  | [d] => { results := [.lit (.bool false)], args := [d] }
  | _ => none }
def FnEdgeLongWrongFalsely : Prop := fnEdgeLongRow.holds Try.pinned (OpenSpec.ofChange fnEdgeLongWrong)

/-- 'laws.FnSetAt': WHATEVER THE INPUT: true; the input reads as it did. -/
def fnSetAtSpec : ChangeSpec := { name := "fnSetAt", fn := fun _ => fun
  | [d] => { results := [.lit (.bool true)], args := [d] }
  | _ => none }
def fnSetAtRow : OpenClaim := { program := "ytbiajaafdbbmgac", sum := "0268c6aa0cde66f44a9ed293436d34d0336926aed2fbdc780c743fbecdf09e92", func := "loop.example/sundials/laws.FnSetAt", spec := "fnSetAt", recurses := true, apart := false }
def FnSetAtSaid : Prop := fnSetAtRow.holds Try.pinned (OpenSpec.ofChange fnSetAtSpec)

/-- ITS FALSE NEIGHBOUR: 'it returns false'. Refute it at one input. -/
def fnSetAtWrong : ChangeSpec := { name := "fnSetAt", fn := fun _ => fun
  | [d] => { results := [.lit (.bool false)], args := [d] }
  | _ => none }
def FnSetAtWrongFalsely : Prop := fnSetAtRow.holds Try.pinned (OpenSpec.ofChange fnSetAtWrong)

/-- 'laws.FnNoSet': WHATEVER THE INPUT: true; the input reads as it did. -/
def fnNoSetSpec : ChangeSpec := { name := "fnNoSet", fn := fun _ => fun
  | [d] => { results := [.lit (.bool true)], args := [d] }
  | _ => none }
def fnNoSetRow : OpenClaim := { program := "ytbiajaafdbbmgac", sum := "0268c6aa0cde66f44a9ed293436d34d0336926aed2fbdc780c743fbecdf09e92", func := "loop.example/sundials/laws.FnNoSet", spec := "fnNoSet", recurses := true, apart := false }
def FnNoSetSaid : Prop := fnNoSetRow.holds Try.pinned (OpenSpec.ofChange fnNoSetSpec)

/-- ITS FALSE NEIGHBOUR: 'it returns false'. Refute it at one input. -/
def fnNoSetWrong : ChangeSpec := { name := "fnNoSet", fn := fun _ => fun
  | [d] => { results := [.lit (.bool false)], args := [d] }
  | _ => none }
def FnNoSetWrongFalsely : Prop := fnNoSetRow.holds Try.pinned (OpenSpec.ofChange fnNoSetWrong)

/-- 'laws.FnNoRise': WHATEVER THE INPUT: true; the input reads as it did. -/
def fnNoRiseSpec : ChangeSpec := { name := "fnNoRise", fn := fun _ => fun
  | [d] => { results := [.lit (.bool true)], args := [d] }
  | _ => none }
def fnNoRiseRow : OpenClaim := { program := "ytbiajaafdbbmgac", sum := "0268c6aa0cde66f44a9ed293436d34d0336926aed2fbdc780c743fbecdf09e92", func := "loop.example/sundials/laws.FnNoRise", spec := "fnNoRise", recurses := true, apart := false }
def FnNoRiseSaid : Prop := fnNoRiseRow.holds Try.pinned (OpenSpec.ofChange fnNoRiseSpec)

/-- ITS FALSE NEIGHBOUR: 'it returns false'. Refute it at one input. -/
def fnNoRiseWrong : ChangeSpec := { name := "fnNoRise", fn := fun _ => fun
  | [d] => { results := [.lit (.bool false)], args := [d] }
  | _ => none }
def FnNoRiseWrongFalsely : Prop := fnNoRiseRow.holds Try.pinned (OpenSpec.ofChange fnNoRiseWrong)

/- THE SECOND FORM. 'bulk': how many values and letters a reading holds, each counted each time it is reached (what is shared counts as often as it is met; a slice's spare places count too). A statement '..UptoSaid' is the law's where the arguments, and the package variables that the reading takes, are together of bulk at most 1048576: NARROWER than '..Said'. Prove '..Said' where nothing that the law and all that it calls make is longer than what came in: it says more and counts as full. Else prove '..UptoSaid'. A law counts once. -/
mutual
def uptoBulk {H : Type} : DataW H → Nat
  | .lit (.string bytes) => bytes.length + 1
  | .lit _ => 1
  | .nil => 1
  | .ptr d => uptoBulk d + 1
  | .slice elems spare => uptoBulkAll elems + uptoBulkAll spare + 1
  | .agg parts => uptoBulkAll parts + 1
  | .iface _ d => uptoBulk d + 1
  | .map entries => uptoBulkEntries entries + 1
  | .held _ => 1
def uptoBulkAll {H : Type} : List (DataW H) → Nat
  | [] => 0
  | d :: r => uptoBulk d + uptoBulkAll r
def uptoBulkEntries {H : Type} : List (Lit × DataW H) → Nat
  | [] => 0
  | x :: r => uptoBulkEntry x + uptoBulkEntries r
def uptoBulkEntry {H : Type} : Lit × DataW H → Nat
  | (.string bytes, d) => bytes.length + uptoBulk d + 1
  | (_, d) => uptoBulk d + 1
 end
def uptoSmall : (H : Type) → List (DataW H) → Bool := fun _ ds => decide (uptoBulkAll ds ≤ 1048576)
def OpenSpec.upto (s : _root_.Go.ChangeSpec) : _root_.Go.OpenSpec := { _root_.Go.OpenSpec.ofChange s with cond := some uptoSmall }

/-- 'laws.FnSkyValid', WHERE WHAT IT READS IS OF BULK AT MOST 1048576: true; the input reads as it did. -/
def fnSkyValidUptoRow : OpenClaim := { program := "ytbiajaafdbbmgac", sum := "0268c6aa0cde66f44a9ed293436d34d0336926aed2fbdc780c743fbecdf09e92", func := "loop.example/sundials/laws.FnSkyValid", spec := "fnSkyValid", apart := false, narrowed := true }
def FnSkyValidUptoSaid : Prop := fnSkyValidUptoRow.holds Try.pinned (OpenSpec.upto fnSkyValidSpec)

/-- 'laws.FnSunAt', WHERE WHAT IT READS IS OF BULK AT MOST 1048576: true; the input reads as it did. -/
def fnSunAtUptoRow : OpenClaim := { program := "ytbiajaafdbbmgac", sum := "0268c6aa0cde66f44a9ed293436d34d0336926aed2fbdc780c743fbecdf09e92", func := "loop.example/sundials/laws.FnSunAt", spec := "fnSunAt", recurses := true, apart := false, narrowed := true }
def FnSunAtUptoSaid : Prop := fnSunAtUptoRow.holds Try.pinned (OpenSpec.upto fnSunAtSpec)

/-- 'laws.FnSunUp', WHERE WHAT IT READS IS OF BULK AT MOST 1048576: true; the input reads as it did. -/
def fnSunUpUptoRow : OpenClaim := { program := "ytbiajaafdbbmgac", sum := "0268c6aa0cde66f44a9ed293436d34d0336926aed2fbdc780c743fbecdf09e92", func := "loop.example/sundials/laws.FnSunUp", spec := "fnSunUp", recurses := true, apart := false, narrowed := true }
def FnSunUpUptoSaid : Prop := fnSunUpUptoRow.holds Try.pinned (OpenSpec.upto fnSunUpSpec)

/-- 'laws.FnDayLong', WHERE WHAT IT READS IS OF BULK AT MOST 1048576: true; the input reads as it did. -/
def fnDayLongUptoRow : OpenClaim := { program := "ytbiajaafdbbmgac", sum := "0268c6aa0cde66f44a9ed293436d34d0336926aed2fbdc780c743fbecdf09e92", func := "loop.example/sundials/laws.FnDayLong", spec := "fnDayLong", recurses := true, apart := false, narrowed := true }
def FnDayLongUptoSaid : Prop := fnDayLongUptoRow.holds Try.pinned (OpenSpec.upto fnDayLongSpec)

/-- 'laws.FnNightLong', WHERE WHAT IT READS IS OF BULK AT MOST 1048576: true; the input reads as it did. -/
def fnNightLongUptoRow : OpenClaim := { program := "ytbiajaafdbbmgac", sum := "0268c6aa0cde66f44a9ed293436d34d0336926aed2fbdc780c743fbecdf09e92", func := "loop.example/sundials/laws.FnNightLong", spec := "fnNightLong", recurses := true, apart := false, narrowed := true }
def FnNightLongUptoSaid : Prop := fnNightLongUptoRow.holds Try.pinned (OpenSpec.upto fnNightLongSpec)

/-- 'laws.FnEdgeLong', WHERE WHAT IT READS IS OF BULK AT MOST 1048576: true; the input reads as it did. -/
def fnEdgeLongUptoRow : OpenClaim := { program := "ytbiajaafdbbmgac", sum := "0268c6aa0cde66f44a9ed293436d34d0336926aed2fbdc780c743fbecdf09e92", func := "loop.example/sundials/laws.FnEdgeLong", spec := "fnEdgeLong", recurses := true, apart := false, narrowed := true }
def FnEdgeLongUptoSaid : Prop := fnEdgeLongUptoRow.holds Try.pinned (OpenSpec.upto fnEdgeLongSpec)

/-- 'laws.FnSetAt', WHERE WHAT IT READS IS OF BULK AT MOST 1048576: true; the input reads as it did. -/
def fnSetAtUptoRow : OpenClaim := { program := "ytbiajaafdbbmgac", sum := "0268c6aa0cde66f44a9ed293436d34d0336926aed2fbdc780c743fbecdf09e92", func := "loop.example/sundials/laws.FnSetAt", spec := "fnSetAt", recurses := true, apart := false, narrowed := true }
def FnSetAtUptoSaid : Prop := fnSetAtUptoRow.holds Try.pinned (OpenSpec.upto fnSetAtSpec)

/-- 'laws.FnNoSet', WHERE WHAT IT READS IS OF BULK AT MOST 1048576: true; the input reads as it did. -/
def fnNoSetUptoRow : OpenClaim := { program := "ytbiajaafdbbmgac", sum := "0268c6aa0cde66f44a9ed293436d34d0336926aed2fbdc780c743fbecdf09e92", func := "loop.example/sundials/laws.FnNoSet", spec := "fnNoSet", recurses := true, apart := false, narrowed := true }
def FnNoSetUptoSaid : Prop := fnNoSetUptoRow.holds Try.pinned (OpenSpec.upto fnNoSetSpec)

/-- 'laws.FnNoRise', WHERE WHAT IT READS IS OF BULK AT MOST 1048576: true; the input reads as it did. -/
def fnNoRiseUptoRow : OpenClaim := { program := "ytbiajaafdbbmgac", sum := "0268c6aa0cde66f44a9ed293436d34d0336926aed2fbdc780c743fbecdf09e92", func := "loop.example/sundials/laws.FnNoRise", spec := "fnNoRise", recurses := true, apart := false, narrowed := true }
def FnNoRiseUptoSaid : Prop := fnNoRiseUptoRow.holds Try.pinned (OpenSpec.upto fnNoRiseSpec)

end Rows
end Go.Proofs.Ytbiajaafdbbmgac
