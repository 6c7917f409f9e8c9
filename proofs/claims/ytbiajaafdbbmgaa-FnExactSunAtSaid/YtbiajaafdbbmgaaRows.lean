/-
  No cell of these rows narrows 'for every input' (looked for: loops, veiled, ifaces, maps, wideKeys, modest, calm, conditions, laid).
  DERIVED. THE GIVEN ROWS OF THIS SEAT. 9 by the template 'for every input the law returns true; each argument reads behind the call as it read before'; 0 by the template 'total and deterministic' (their statements: YtbiajaafdbbmgaaTotals.lean).
  GIVEN WITH THE SEED: the statements are not yours to turn. If you find one false, say at which input.
  Laid BY PROGRAM, IN A SANDBOX (cutbox-rows.mjs): the forced cells as the released guide's own fill.sh prints them over the translation a5ae6c42807136f8… (all of the seat's roots in one cut). By AI agents, Wed Nov 11 2026. No macro, syntax, notation, axiom, sorry.
-/
import Derived.Test.YtbiajaafdbbmgaaChecked
import GoSem.Claim
import GoSem.ClaimJoined
import GoSem.ClaimMapViews
import Derived.JoinedTies
import Derived.KernelRfl
namespace Go.Proofs.Ytbiajaafdbbmgaa
/- THE CELL 'sum', in the pinned program and in every row, IS THE sha256 OF THE DUMP (.gsa) THAT YtbiajaafdbbmgaaProg.lean LOADS. Nothing in Lean hashes anything: it is a label: what it is worth is what the hold of that sum in a sandbox is worth. -/
noncomputable def Try.pinned : Pinned := { name := "ytbiajaafdbbmgaa", sum := "a5ae6c42807136f8fa5734058636f4b42671b4229ab11c1e71e2e4f16b7798a8", checked := Try.checked }
namespace Rows
def none {H : Type} : Left H := { results := [], args := [] }

/-- 'laws.FnExactSkyValid': WHATEVER THE INPUT: true; the input reads as it did. -/
def fnExactSkyValidSpec : ChangeSpec := { name := "fnExactSkyValid", fn := fun _ => fun
  | [d1, d2] => { results := [.lit (.bool true)], args := [d1, d2] }
  | _ => none }
def fnExactSkyValidRow : OpenClaim := { program := "ytbiajaafdbbmgaa", sum := "a5ae6c42807136f8fa5734058636f4b42671b4229ab11c1e71e2e4f16b7798a8", func := "loop.example/sundials/laws.FnExactSkyValid", spec := "fnExactSkyValid", apart := false }
def FnExactSkyValidSaid : Prop := fnExactSkyValidRow.holds Try.pinned (OpenSpec.ofChange fnExactSkyValidSpec)

/-- ITS FALSE NEIGHBOUR: 'it returns false'. Refute it at one input. -/
def fnExactSkyValidWrong : ChangeSpec := { name := "fnExactSkyValid", fn := fun _ => fun
  | [d1, d2] => { results := [.lit (.bool false)], args := [d1, d2] }
  | _ => none }
def FnExactSkyValidWrongFalsely : Prop := fnExactSkyValidRow.holds Try.pinned (OpenSpec.ofChange fnExactSkyValidWrong)

/-- 'laws.FnExactSunAt': WHATEVER THE INPUT: true; the input reads as it did. -/
def fnExactSunAtSpec : ChangeSpec := { name := "fnExactSunAt", fn := fun _ => fun
  | [d1, d2, d3] => { results := [.lit (.bool true)], args := [d1, d2, d3] }
  | _ => none }
def fnExactSunAtRow : OpenClaim := { program := "ytbiajaafdbbmgaa", sum := "a5ae6c42807136f8fa5734058636f4b42671b4229ab11c1e71e2e4f16b7798a8", func := "loop.example/sundials/laws.FnExactSunAt", spec := "fnExactSunAt", recurses := true, apart := false }
def FnExactSunAtSaid : Prop := fnExactSunAtRow.holds Try.pinned (OpenSpec.ofChange fnExactSunAtSpec)

/-- ITS FALSE NEIGHBOUR: 'it returns false'. Refute it at one input. -/
def fnExactSunAtWrong : ChangeSpec := { name := "fnExactSunAt", fn := fun _ => fun
  | [d1, d2, d3] => { results := [.lit (.bool false)], args := [d1, d2, d3] }
  | _ => none }
def FnExactSunAtWrongFalsely : Prop := fnExactSunAtRow.holds Try.pinned (OpenSpec.ofChange fnExactSunAtWrong)

/-- 'laws.FnExactSunUp': WHATEVER THE INPUT: true; the input reads as it did. -/
def fnExactSunUpSpec : ChangeSpec := { name := "fnExactSunUp", fn := fun _ => fun
  | [d1, d2, d3] => { results := [.lit (.bool true)], args := [d1, d2, d3] }
  | _ => none }
def fnExactSunUpRow : OpenClaim := { program := "ytbiajaafdbbmgaa", sum := "a5ae6c42807136f8fa5734058636f4b42671b4229ab11c1e71e2e4f16b7798a8", func := "loop.example/sundials/laws.FnExactSunUp", spec := "fnExactSunUp", recurses := true, apart := false }
def FnExactSunUpSaid : Prop := fnExactSunUpRow.holds Try.pinned (OpenSpec.ofChange fnExactSunUpSpec)

/-- ITS FALSE NEIGHBOUR: 'it returns false'. Refute it at one input. -/
def fnExactSunUpWrong : ChangeSpec := { name := "fnExactSunUp", fn := fun _ => fun
  | [d1, d2, d3] => { results := [.lit (.bool false)], args := [d1, d2, d3] }
  | _ => none }
def FnExactSunUpWrongFalsely : Prop := fnExactSunUpRow.holds Try.pinned (OpenSpec.ofChange fnExactSunUpWrong)

/-- 'laws.FnExactDayLong': WHATEVER THE INPUT: true; the input reads as it did. -/
def fnExactDayLongSpec : ChangeSpec := { name := "fnExactDayLong", fn := fun _ => fun
  | [d1, d2] => { results := [.lit (.bool true)], args := [d1, d2] }
  | _ => none }
def fnExactDayLongRow : OpenClaim := { program := "ytbiajaafdbbmgaa", sum := "a5ae6c42807136f8fa5734058636f4b42671b4229ab11c1e71e2e4f16b7798a8", func := "loop.example/sundials/laws.FnExactDayLong", spec := "fnExactDayLong", recurses := true, apart := false }
def FnExactDayLongSaid : Prop := fnExactDayLongRow.holds Try.pinned (OpenSpec.ofChange fnExactDayLongSpec)

/-- ITS FALSE NEIGHBOUR: 'it returns false'. Refute it at one input. -/
def fnExactDayLongWrong : ChangeSpec := { name := "fnExactDayLong", fn := fun _ => fun
  | [d1, d2] => { results := [.lit (.bool false)], args := [d1, d2] }
  | _ => none }
def FnExactDayLongWrongFalsely : Prop := fnExactDayLongRow.holds Try.pinned (OpenSpec.ofChange fnExactDayLongWrong)

/-- 'laws.FnExactNightLong': WHATEVER THE INPUT: true; the input reads as it did. -/
def fnExactNightLongSpec : ChangeSpec := { name := "fnExactNightLong", fn := fun _ => fun
  | [d1, d2] => { results := [.lit (.bool true)], args := [d1, d2] }
  | _ => none }
def fnExactNightLongRow : OpenClaim := { program := "ytbiajaafdbbmgaa", sum := "a5ae6c42807136f8fa5734058636f4b42671b4229ab11c1e71e2e4f16b7798a8", func := "loop.example/sundials/laws.FnExactNightLong", spec := "fnExactNightLong", recurses := true, apart := false }
def FnExactNightLongSaid : Prop := fnExactNightLongRow.holds Try.pinned (OpenSpec.ofChange fnExactNightLongSpec)

/-- ITS FALSE NEIGHBOUR: 'it returns false'. Refute it at one input. -/
def fnExactNightLongWrong : ChangeSpec := { name := "fnExactNightLong", fn := fun _ => fun
  | [d1, d2] => { results := [.lit (.bool false)], args := [d1, d2] }
  | _ => none }
def FnExactNightLongWrongFalsely : Prop := fnExactNightLongRow.holds Try.pinned (OpenSpec.ofChange fnExactNightLongWrong)

/-- 'laws.FnExactEdgeLong': WHATEVER THE INPUT: true; the input reads as it did. -/
def fnExactEdgeLongSpec : ChangeSpec := { name := "fnExactEdgeLong", fn := fun _ => fun
  | [d1, d2] => { results := [.lit (.bool true)], args := [d1, d2] }
  | _ => none }
def fnExactEdgeLongRow : OpenClaim := { program := "ytbiajaafdbbmgaa", sum := "a5ae6c42807136f8fa5734058636f4b42671b4229ab11c1e71e2e4f16b7798a8", func := "loop.example/sundials/laws.FnExactEdgeLong", spec := "fnExactEdgeLong", recurses := true, apart := false }
def FnExactEdgeLongSaid : Prop := fnExactEdgeLongRow.holds Try.pinned (OpenSpec.ofChange fnExactEdgeLongSpec)

/-- ITS FALSE NEIGHBOUR: 'it returns false'. Refute it at one input. -/
def fnExactEdgeLongWrong : ChangeSpec := { name := "fnExactEdgeLong", fn := fun _ => fun
  | [d1, d2] => { results := [.lit (.bool false)], args := [d1, d2] }
  | _ => none }
def FnExactEdgeLongWrongFalsely : Prop := fnExactEdgeLongRow.holds Try.pinned (OpenSpec.ofChange fnExactEdgeLongWrong)

/-- 'laws.FnExactSetAt': WHATEVER THE INPUT: true; the input reads as it did. -/
def fnExactSetAtSpec : ChangeSpec := { name := "fnExactSetAt", fn := fun _ => fun
  | [d1, d2] => { results := [.lit (.bool true)], args := [d1, d2] }
  | _ => none }
def fnExactSetAtRow : OpenClaim := { program := "ytbiajaafdbbmgaa", sum := "a5ae6c42807136f8fa5734058636f4b42671b4229ab11c1e71e2e4f16b7798a8", func := "loop.example/sundials/laws.FnExactSetAt", spec := "fnExactSetAt", recurses := true, apart := false }
def FnExactSetAtSaid : Prop := fnExactSetAtRow.holds Try.pinned (OpenSpec.ofChange fnExactSetAtSpec)

/-- ITS FALSE NEIGHBOUR: 'it returns false'. Refute it at one input. -/
def fnExactSetAtWrong : ChangeSpec := { name := "fnExactSetAt", fn := fun _ => fun
  | [d1, d2] => { results := [.lit (.bool false)], args := [d1, d2] }
  | _ => none }
def FnExactSetAtWrongFalsely : Prop := fnExactSetAtRow.holds Try.pinned (OpenSpec.ofChange fnExactSetAtWrong)

/-- 'laws.FnExactNoSet': WHATEVER THE INPUT: true; the input reads as it did. -/
def fnExactNoSetSpec : ChangeSpec := { name := "fnExactNoSet", fn := fun _ => fun
  | [d1, d2] => { results := [.lit (.bool true)], args := [d1, d2] }
  | _ => none }
def fnExactNoSetRow : OpenClaim := { program := "ytbiajaafdbbmgaa", sum := "a5ae6c42807136f8fa5734058636f4b42671b4229ab11c1e71e2e4f16b7798a8", func := "loop.example/sundials/laws.FnExactNoSet", spec := "fnExactNoSet", recurses := true, apart := false }
def FnExactNoSetSaid : Prop := fnExactNoSetRow.holds Try.pinned (OpenSpec.ofChange fnExactNoSetSpec)

/-- ITS FALSE NEIGHBOUR: 'it returns false'. Refute it at one input. -/
def fnExactNoSetWrong : ChangeSpec := { name := "fnExactNoSet", fn := fun _ => fun
  | [d1, d2] => { results := [.lit (.bool false)], args := [d1, d2] }
  | _ => none }
def FnExactNoSetWrongFalsely : Prop := fnExactNoSetRow.holds Try.pinned (OpenSpec.ofChange fnExactNoSetWrong)

/-- 'laws.FnExactNoRise': WHATEVER THE INPUT: true; the input reads as it did. -/
def fnExactNoRiseSpec : ChangeSpec := { name := "fnExactNoRise", fn := fun _ => fun
  | [d1, d2] => { results := [.lit (.bool true)], args := [d1, d2] }
  | _ => none }
def fnExactNoRiseRow : OpenClaim := { program := "ytbiajaafdbbmgaa", sum := "a5ae6c42807136f8fa5734058636f4b42671b4229ab11c1e71e2e4f16b7798a8", func := "loop.example/sundials/laws.FnExactNoRise", spec := "fnExactNoRise", recurses := true, apart := false }
def FnExactNoRiseSaid : Prop := fnExactNoRiseRow.holds Try.pinned (OpenSpec.ofChange fnExactNoRiseSpec)

/-- ITS FALSE NEIGHBOUR: 'it returns false'. Refute it at one input. -/
def fnExactNoRiseWrong : ChangeSpec := { name := "fnExactNoRise", fn := fun _ => fun
  | [d1, d2] => { results := [.lit (.bool false)], args := [d1, d2] }
  | _ => none }
def FnExactNoRiseWrongFalsely : Prop := fnExactNoRiseRow.holds Try.pinned (OpenSpec.ofChange fnExactNoRiseWrong)

/- THE SECOND FORM. 'bulk': how many values and letters a reading holds, each counted each time it is reached (what is shared counts as often as it is met; a slice's spare places count too). A statement '..UptoSaid' is the law's where the arguments, and the package variables that the reading takes, are together of bulk at most 1048576: NARROWER than '..Said'. Prove '..Said' where nothing that the law and all that it calls make is longer than what came in: it says more and counts as full. Else prove '..UptoSaid'. A law counts once. -/
mutual
def uptoBulk {H : Type} : DataW H → Nat
  | .lit (.string bytes) => bytes.length + 1
  | .lit _ => 1
  | .nil => 1
  | .ptr d => uptoBulk d + 1
  | .slice elems spare => uptoBulkAll elems + uptoBulkAll spare + 1
  | .agg parts => uptoBulkAll parts + 1
  | .iface _ d => uptoBulk d + 1
  | .map entries => uptoBulkEntries entries + 1
  | .held _ => 1
def uptoBulkAll {H : Type} : List (DataW H) → Nat
  | [] => 0
  | d :: r => uptoBulk d + uptoBulkAll r
def uptoBulkEntries {H : Type} : List (Lit × DataW H) → Nat
  | [] => 0
  | x :: r => uptoBulkEntry x + uptoBulkEntries r
def uptoBulkEntry {H : Type} : Lit × DataW H → Nat
  | (.string bytes, d) => bytes.length + uptoBulk d + 1
  | (_, d) => uptoBulk d + 1
 end
def uptoSmall : (H : Type) → List (DataW H) → Bool := fun _ ds => decide (uptoBulkAll ds ≤ 1048576)
def OpenSpec.upto (s : _root_.Go.ChangeSpec) : _root_.Go.OpenSpec := { _root_.Go.OpenSpec.ofChange s with cond := some uptoSmall }

/-- 'laws.FnExactSkyValid', WHERE WHAT IT READS IS OF BULK AT MOST 1048576: true; the input reads as it did. -/
def fnExactSkyValidUptoRow : OpenClaim := { program := "ytbiajaafdbbmgaa", sum := "a5ae6c42807136f8fa5734058636f4b42671b4229ab11c1e71e2e4f16b7798a8", func := "loop.example/sundials/laws.FnExactSkyValid", spec := "fnExactSkyValid", apart := false, narrowed := true }
def FnExactSkyValidUptoSaid : Prop := fnExactSkyValidUptoRow.holds Try.pinned (OpenSpec.upto fnExactSkyValidSpec)

/-- 'laws.FnExactSunAt', WHERE WHAT IT READS IS OF BULK AT MOST 1048576: true; the input reads as it did. -/
def fnExactSunAtUptoRow : OpenClaim := { program := "ytbiajaafdbbmgaa", sum := "a5ae6c42807136f8fa5734058636f4b42671b4229ab11c1e71e2e4f16b7798a8", func := "loop.example/sundials/laws.FnExactSunAt", spec := "fnExactSunAt", recurses := true, apart := false, narrowed := true }
def FnExactSunAtUptoSaid : Prop := fnExactSunAtUptoRow.holds Try.pinned (OpenSpec.upto fnExactSunAtSpec)

/-- 'laws.FnExactSunUp', WHERE WHAT IT READS IS OF BULK AT MOST 1048576: true; the input reads as it did. -/
def fnExactSunUpUptoRow : OpenClaim := { program := "ytbiajaafdbbmgaa", sum := "a5ae6c42807136f8fa5734058636f4b42671b4229ab11c1e71e2e4f16b7798a8", func := "loop.example/sundials/laws.FnExactSunUp", spec := "fnExactSunUp", recurses := true, apart := false, narrowed := true }
def FnExactSunUpUptoSaid : Prop := fnExactSunUpUptoRow.holds Try.pinned (OpenSpec.upto fnExactSunUpSpec)

/-- 'laws.FnExactDayLong', WHERE WHAT IT READS IS OF BULK AT MOST 1048576: true; the input reads as it did. -/
def fnExactDayLongUptoRow : OpenClaim := { program := "ytbiajaafdbbmgaa", sum := "a5ae6c42807136f8fa5734058636f4b42671b4229ab11c1e71e2e4f16b7798a8", func := "loop.example/sundials/laws.FnExactDayLong", spec := "fnExactDayLong", recurses := true, apart := false, narrowed := true }
def FnExactDayLongUptoSaid : Prop := fnExactDayLongUptoRow.holds Try.pinned (OpenSpec.upto fnExactDayLongSpec)

/-- 'laws.FnExactNightLong', WHERE WHAT IT READS IS OF BULK AT MOST 1048576: true; the input reads as it did. -/
def fnExactNightLongUptoRow : OpenClaim := { program := "ytbiajaafdbbmgaa", sum := "a5ae6c42807136f8fa5734058636f4b42671b4229ab11c1e71e2e4f16b7798a8", func := "loop.example/sundials/laws.FnExactNightLong", spec := "fnExactNightLong", recurses := true, apart := false, narrowed := true }
def FnExactNightLongUptoSaid : Prop := fnExactNightLongUptoRow.holds Try.pinned (OpenSpec.upto fnExactNightLongSpec)

/-- 'laws.FnExactEdgeLong', WHERE WHAT IT READS IS OF BULK AT MOST 1048576: true; the input reads as it did. -/
def fnExactEdgeLongUptoRow : OpenClaim := { program := "ytbiajaafdbbmgaa", sum := "a5ae6c42807136f8fa5734058636f4b42671b4229ab11c1e71e2e4f16b7798a8", func := "loop.example/sundials/laws.FnExactEdgeLong", spec := "fnExactEdgeLong", recurses := true, apart := false, narrowed := true }
def FnExactEdgeLongUptoSaid : Prop := fnExactEdgeLongUptoRow.holds Try.pinned (OpenSpec.upto fnExactEdgeLongSpec)

/-- 'laws.FnExactSetAt', WHERE WHAT IT READS IS OF BULK AT MOST 1048576: true; the input reads as it did. -/
def fnExactSetAtUptoRow : OpenClaim := { program := "ytbiajaafdbbmgaa", sum := "a5ae6c42807136f8fa5734058636f4b42671b4229ab11c1e71e2e4f16b7798a8", func := "loop.example/sundials/laws.FnExactSetAt", spec := "fnExactSetAt", recurses := true, apart := false, narrowed := true }
def FnExactSetAtUptoSaid : Prop := fnExactSetAtUptoRow.holds Try.pinned (OpenSpec.upto fnExactSetAtSpec)

/-- 'laws.FnExactNoSet', WHERE WHAT IT READS IS OF BULK AT MOST 1048576: true; the input reads as it did. -/
def fnExactNoSetUptoRow : OpenClaim := { program := "ytbiajaafdbbmgaa", sum := "a5ae6c42807136f8fa5734058636f4b42671b4229ab11c1e71e2e4f16b7798a8", func := "loop.example/sundials/laws.FnExactNoSet", spec := "fnExactNoSet", recurses := true, apart := false, narrowed := true }
def FnExactNoSetUptoSaid : Prop := fnExactNoSetUptoRow.holds Try.pinned (OpenSpec.upto fnExactNoSetSpec)

/-- 'laws.FnExactNoRise', WHERE WHAT IT READS IS OF BULK AT MOST 1048576: true; the input reads as it did. -/
def fnExactNoRiseUptoRow : OpenClaim := { program := "ytbiajaafdbbmgaa", sum := "a5ae6c42807136f8fa5734058636f4b42671b4229ab11c1e71e2e4f16b7798a8", func := "loop.example/sundials/laws.FnExactNoRise", spec := "fnExactNoRise", recurses := true, apart := false, narrowed := true }
def FnExactNoRiseUptoSaid : Prop := fnExactNoRiseUptoRow.holds Try.pinned (OpenSpec.upto fnExactNoRiseSpec)

end Rows
end Go.Proofs.Ytbiajaafdbbmgaa
