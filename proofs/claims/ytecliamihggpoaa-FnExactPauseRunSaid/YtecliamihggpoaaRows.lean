/-
  No cell of these rows narrows 'for every input' (looked for: loops, veiled, ifaces, maps, wideKeys, modest, calm, conditions, laid).
  DERIVED. THE GIVEN ROWS OF THIS SEAT. 9 by the template 'for every input the law returns true; each argument reads behind the call as it read before'; 0 by the template 'total and deterministic' (their statements: YtecliamihggpoaaTotals.lean).
  GIVEN WITH THE SEED: the statements are not yours to turn. If you find one false, say at which input.
  Laid BY PROGRAM, IN A SANDBOX (cutbox-rows.mjs): the forced cells as the released guide's own fill.sh prints them over the translation 3e5913fcedb1670b… (all of the seat's roots in one cut). By AI agents, Wed Nov 11 2026. No macro, syntax, notation, axiom, sorry.
-/
import Derived.Test.YtecliamihggpoaaChecked
import GoSem.Claim
import GoSem.ClaimJoined
import GoSem.ClaimMapViews
import Derived.JoinedTies
import Derived.KernelRfl
namespace Go.Proofs.Ytecliamihggpoaa
/- THE CELL 'sum', in the pinned program and in every row, IS THE sha256 OF THE DUMP (.gsa) THAT YtecliamihggpoaaProg.lean LOADS. Nothing in Lean hashes anything: it is a label: what it is worth is what the hold of that sum in a sandbox is worth. -/
noncomputable def Try.pinned : Pinned := { name := "ytecliamihggpoaa", sum := "3e5913fcedb1670bd83c686ffc44d9d804afc899e0b396505328d4026a575642", checked := Try.checked }
namespace Rows
def none {H : Type} : Left H := { results := [], args := [] }

/-- 'laws.FnExactBandValid': WHATEVER THE INPUT: true; the input reads as it did. -/
def fnExactBandValidSpec : ChangeSpec := { name := "fnExactBandValid", fn := fun _ => fun
  | [d] => { results := [.lit (.bool true)], args := [d] }
  | _ => none }
def fnExactBandValidRow : OpenClaim := { program := "ytecliamihggpoaa", sum := "3e5913fcedb1670bd83c686ffc44d9d804afc899e0b396505328d4026a575642", func := "loop.example/sundials/laws.FnExactBandValid", spec := "fnExactBandValid", apart := false }
def FnExactBandValidSaid : Prop := fnExactBandValidRow.holds Try.pinned (OpenSpec.ofChange fnExactBandValidSpec)

/-- ITS FALSE NEIGHBOUR: 'it returns false'. Refute it at one input. -/
def fnExactBandValidWrong : ChangeSpec := { name := "fnExactBandValid", fn := fun _ => fun
  | [d] => { results := [.lit (.bool false)], args := [d] }
  | _ => none }
def FnExactBandValidWrongFalsely : Prop := fnExactBandValidRow.holds Try.pinned (OpenSpec.ofChange fnExactBandValidWrong)

/-- 'laws.FnExactLightsValid': WHATEVER THE INPUT: true; the input reads as it did. -/
def fnExactLightsValidSpec : ChangeSpec := { name := "fnExactLightsValid", fn := fun _ => fun
  | [d] => { results := [.lit (.bool true)], args := [d] }
  | _ => none }
def fnExactLightsValidRow : OpenClaim := { program := "ytecliamihggpoaa", sum := "3e5913fcedb1670bd83c686ffc44d9d804afc899e0b396505328d4026a575642", func := "loop.example/sundials/laws.FnExactLightsValid", spec := "fnExactLightsValid", unfollowed := true, recurses := true, apart := false }
def FnExactLightsValidSaid : Prop := fnExactLightsValidRow.holds Try.pinned (OpenSpec.ofChange fnExactLightsValidSpec)

/-- ITS FALSE NEIGHBOUR: 'it returns false'. Refute it at one input. -/
def fnExactLightsValidWrong : ChangeSpec := { name := "fnExactLightsValid", fn := fun _ => fun
  | [d] => { results := [.lit (.bool false)], args := [d] }
  | _ => none }
def FnExactLightsValidWrongFalsely : Prop := fnExactLightsValidRow.holds Try.pinned (OpenSpec.ofChange fnExactLightsValidWrong)

/-- 'laws.FnExactBandStep': WHATEVER THE INPUT: true; the input reads as it did. -/
def fnExactBandStepSpec : ChangeSpec := { name := "fnExactBandStep", fn := fun _ => fun
  | [d1, d2, d3] => { results := [.lit (.bool true)], args := [d1, d2, d3] }
  | _ => none }
def fnExactBandStepRow : OpenClaim := { program := "ytecliamihggpoaa", sum := "3e5913fcedb1670bd83c686ffc44d9d804afc899e0b396505328d4026a575642", func := "loop.example/sundials/laws.FnExactBandStep", spec := "fnExactBandStep", apart := false }
def FnExactBandStepSaid : Prop := fnExactBandStepRow.holds Try.pinned (OpenSpec.ofChange fnExactBandStepSpec)

/-- ITS FALSE NEIGHBOUR: 'it returns false'. Refute it at one input. -/
def fnExactBandStepWrong : ChangeSpec := { name := "fnExactBandStep", fn := fun _ => fun
  | [d1, d2, d3] => { results := [.lit (.bool false)], args := [d1, d2, d3] }
  | _ => none }
def FnExactBandStepWrongFalsely : Prop := fnExactBandStepRow.holds Try.pinned (OpenSpec.ofChange fnExactBandStepWrong)

/-- 'laws.FnExactBandRun': WHATEVER THE INPUT: true; the input reads as it did. -/
def fnExactBandRunSpec : ChangeSpec := { name := "fnExactBandRun", fn := fun _ => fun
  | [d1, d2, d3] => { results := [.lit (.bool true)], args := [d1, d2, d3] }
  | _ => none }
def fnExactBandRunRow : OpenClaim := { program := "ytecliamihggpoaa", sum := "3e5913fcedb1670bd83c686ffc44d9d804afc899e0b396505328d4026a575642", func := "loop.example/sundials/laws.FnExactBandRun", spec := "fnExactBandRun", unfollowed := true, recurses := true, apart := false }
def FnExactBandRunSaid : Prop := fnExactBandRunRow.holds Try.pinned (OpenSpec.ofChange fnExactBandRunSpec)

/-- ITS FALSE NEIGHBOUR: 'it returns false'. Refute it at one input. -/
def fnExactBandRunWrong : ChangeSpec := { name := "fnExactBandRun", fn := fun _ => fun
  | [d1, d2, d3] => { results := [.lit (.bool false)], args := [d1, d2, d3] }
  | _ => none }
def FnExactBandRunWrongFalsely : Prop := fnExactBandRunRow.holds Try.pinned (OpenSpec.ofChange fnExactBandRunWrong)

/-- 'laws.FnExactChanges': WHATEVER THE INPUT: true; the input reads as it did. -/
def fnExactChangesSpec : ChangeSpec := { name := "fnExactChanges", fn := fun _ => fun
  | [d1, d2] => { results := [.lit (.bool true)], args := [d1, d2] }
  | _ => none }
def fnExactChangesRow : OpenClaim := { program := "ytecliamihggpoaa", sum := "3e5913fcedb1670bd83c686ffc44d9d804afc899e0b396505328d4026a575642", func := "loop.example/sundials/laws.FnExactChanges", spec := "fnExactChanges", apart := false }
def FnExactChangesSaid : Prop := fnExactChangesRow.holds Try.pinned (OpenSpec.ofChange fnExactChangesSpec)

/-- ITS FALSE NEIGHBOUR: 'it returns false'. Refute it at one input. -/
def fnExactChangesWrong : ChangeSpec := { name := "fnExactChanges", fn := fun _ => fun
  | [d1, d2] => { results := [.lit (.bool false)], args := [d1, d2] }
  | _ => none }
def FnExactChangesWrongFalsely : Prop := fnExactChangesRow.holds Try.pinned (OpenSpec.ofChange fnExactChangesWrong)

/-- 'laws.FnExactBandCrosses': WHATEVER THE INPUT: true; the input reads as it did. -/
def fnExactBandCrossesSpec : ChangeSpec := { name := "fnExactBandCrosses", fn := fun _ => fun
  | [d1, d2, d3] => { results := [.lit (.bool true)], args := [d1, d2, d3] }
  | _ => none }
def fnExactBandCrossesRow : OpenClaim := { program := "ytecliamihggpoaa", sum := "3e5913fcedb1670bd83c686ffc44d9d804afc899e0b396505328d4026a575642", func := "loop.example/sundials/laws.FnExactBandCrosses", spec := "fnExactBandCrosses", unfollowed := true, recurses := true, apart := false }
def FnExactBandCrossesSaid : Prop := fnExactBandCrossesRow.holds Try.pinned (OpenSpec.ofChange fnExactBandCrossesSpec)

/-- ITS FALSE NEIGHBOUR: 'it returns false'. Refute it at one input. -/
def fnExactBandCrossesWrong : ChangeSpec := { name := "fnExactBandCrosses", fn := fun _ => fun
  | [d1, d2, d3] => { results := [.lit (.bool false)], args := [d1, d2, d3] }
  | _ => none }
def FnExactBandCrossesWrongFalsely : Prop := fnExactBandCrossesRow.holds Try.pinned (OpenSpec.ofChange fnExactBandCrossesWrong)

/-- 'laws.FnExactBlindValid': WHATEVER THE INPUT: true; the input reads as it did. -/
def fnExactBlindValidSpec : ChangeSpec := { name := "fnExactBlindValid", fn := fun _ => fun
  | [d] => { results := [.lit (.bool true)], args := [d] }
  | _ => none }
def fnExactBlindValidRow : OpenClaim := { program := "ytecliamihggpoaa", sum := "3e5913fcedb1670bd83c686ffc44d9d804afc899e0b396505328d4026a575642", func := "loop.example/sundials/laws.FnExactBlindValid", spec := "fnExactBlindValid", apart := false }
def FnExactBlindValidSaid : Prop := fnExactBlindValidRow.holds Try.pinned (OpenSpec.ofChange fnExactBlindValidSpec)

/-- ITS FALSE NEIGHBOUR: 'it returns false'. Refute it at one input. -/
def fnExactBlindValidWrong : ChangeSpec := { name := "fnExactBlindValid", fn := fun _ => fun
  | [d] => { results := [.lit (.bool false)], args := [d] }
  | _ => none }
def FnExactBlindValidWrongFalsely : Prop := fnExactBlindValidRow.holds Try.pinned (OpenSpec.ofChange fnExactBlindValidWrong)

/-- 'laws.FnExactPauseStep': WHATEVER THE INPUT: true; the input reads as it did. -/
def fnExactPauseStepSpec : ChangeSpec := { name := "fnExactPauseStep", fn := fun _ => fun
  | [d1, d2, d3, d4] => { results := [.lit (.bool true)], args := [d1, d2, d3, d4] }
  | _ => none }
def fnExactPauseStepRow : OpenClaim := { program := "ytecliamihggpoaa", sum := "3e5913fcedb1670bd83c686ffc44d9d804afc899e0b396505328d4026a575642", func := "loop.example/sundials/laws.FnExactPauseStep", spec := "fnExactPauseStep", apart := false }
def FnExactPauseStepSaid : Prop := fnExactPauseStepRow.holds Try.pinned (OpenSpec.ofChange fnExactPauseStepSpec)

/-- ITS FALSE NEIGHBOUR: 'it returns false'. Refute it at one input. -/
def fnExactPauseStepWrong : ChangeSpec := { name := "fnExactPauseStep", fn := fun _ => fun
  | [d1, d2, d3, d4] => { results := [.lit (.bool false)], args := [d1, d2, d3, d4] }
  | _ => none }
def FnExactPauseStepWrongFalsely : Prop := fnExactPauseStepRow.holds Try.pinned (OpenSpec.ofChange fnExactPauseStepWrong)

/-- 'laws.FnExactPauseRun': WHATEVER THE INPUT: true; the input reads as it did. -/
def fnExactPauseRunSpec : ChangeSpec := { name := "fnExactPauseRun", fn := fun _ => fun
  | [d1, d2, d3, d4] => { results := [.lit (.bool true)], args := [d1, d2, d3, d4] }
  | _ => none }
def fnExactPauseRunRow : OpenClaim := { program := "ytecliamihggpoaa", sum := "3e5913fcedb1670bd83c686ffc44d9d804afc899e0b396505328d4026a575642", func := "loop.example/sundials/laws.FnExactPauseRun", spec := "fnExactPauseRun", unfollowed := true, recurses := true, apart := false }
def FnExactPauseRunSaid : Prop := fnExactPauseRunRow.holds Try.pinned (OpenSpec.ofChange fnExactPauseRunSpec)

/-- ITS FALSE NEIGHBOUR: 'it returns false'. Refute it at one input. -/
def fnExactPauseRunWrong : ChangeSpec := { name := "fnExactPauseRun", fn := fun _ => fun
  | [d1, d2, d3, d4] => { results := [.lit (.bool false)], args := [d1, d2, d3, d4] }
  | _ => none }
def FnExactPauseRunWrongFalsely : Prop := fnExactPauseRunRow.holds Try.pinned (OpenSpec.ofChange fnExactPauseRunWrong)

/- THE SECOND FORM. 'bulk': how many values and letters a reading holds, each counted each time it is reached (what is shared counts as often as it is met; a slice's spare places count too). A statement '..UptoSaid' is the law's where the arguments, and the package variables that the reading takes, are together of bulk at most 1048576: NARROWER than '..Said'. Prove '..Said' where nothing that the law and all that it calls make is longer than what came in: it says more and counts as full. Else prove '..UptoSaid'. A law counts once. -/
mutual
def uptoBulk {H : Type} : DataW H → Nat
  | .lit (.string bytes) => bytes.length + 1
  | .lit _ => 1
  | .nil => 1
  | .ptr d => uptoBulk d + 1
  | .slice elems spare => uptoBulkAll elems + uptoBulkAll spare + 1
  | .agg parts => uptoBulkAll parts + 1
  | .iface _ d => uptoBulk d + 1
  | .map entries => uptoBulkEntries entries + 1
  | .held _ => 1
def uptoBulkAll {H : Type} : List (DataW H) → Nat
  | [] => 0
  | d :: r => uptoBulk d + uptoBulkAll r
def uptoBulkEntries {H : Type} : List (Lit × DataW H) → Nat
  | [] => 0
  | x :: r => uptoBulkEntry x + uptoBulkEntries r
def uptoBulkEntry {H : Type} : Lit × DataW H → Nat
  | (.string bytes, d) => bytes.length + uptoBulk d + 1
  | (_, d) => uptoBulk d + 1
 end
def uptoSmall : (H : Type) → List (DataW H) → Bool := fun _ ds => decide (uptoBulkAll ds ≤ 1048576)
def OpenSpec.upto (s : _root_.Go.ChangeSpec) : _root_.Go.OpenSpec := { _root_.Go.OpenSpec.ofChange s with cond := some uptoSmall }

/-- 'laws.FnExactBandValid', WHERE WHAT IT READS IS OF BULK AT MOST 1048576: true; the input reads as it did. -/
def fnExactBandValidUptoRow : OpenClaim := { program := "ytecliamihggpoaa", sum := "3e5913fcedb1670bd83c686ffc44d9d804afc899e0b396505328d4026a575642", func := "loop.example/sundials/laws.FnExactBandValid", spec := "fnExactBandValid", apart := false, narrowed := true }
def FnExactBandValidUptoSaid : Prop := fnExactBandValidUptoRow.holds Try.pinned (OpenSpec.upto fnExactBandValidSpec)

/-- 'laws.FnExactLightsValid', WHERE WHAT IT READS IS OF BULK AT MOST 1048576: true; the input reads as it did. -/
def fnExactLightsValidUptoRow : OpenClaim := { program := "ytecliamihggpoaa", sum := "3e5913fcedb1670bd83c686ffc44d9d804afc899e0b396505328d4026a575642", func := "loop.example/sundials/laws.FnExactLightsValid", spec := "fnExactLightsValid", unfollowed := true, recurses := true, apart := false, narrowed := true }
def FnExactLightsValidUptoSaid : Prop := fnExactLightsValidUptoRow.holds Try.pinned (OpenSpec.upto fnExactLightsValidSpec)

/-- 'laws.FnExactBandStep', WHERE WHAT IT READS IS OF BULK AT MOST 1048576: true; the input reads as it did. -/
def fnExactBandStepUptoRow : OpenClaim := { program := "ytecliamihggpoaa", sum := "3e5913fcedb1670bd83c686ffc44d9d804afc899e0b396505328d4026a575642", func := "loop.example/sundials/laws.FnExactBandStep", spec := "fnExactBandStep", apart := false, narrowed := true }
def FnExactBandStepUptoSaid : Prop := fnExactBandStepUptoRow.holds Try.pinned (OpenSpec.upto fnExactBandStepSpec)

/-- 'laws.FnExactBandRun', WHERE WHAT IT READS IS OF BULK AT MOST 1048576: true; the input reads as it did. -/
def fnExactBandRunUptoRow : OpenClaim := { program := "ytecliamihggpoaa", sum := "3e5913fcedb1670bd83c686ffc44d9d804afc899e0b396505328d4026a575642", func := "loop.example/sundials/laws.FnExactBandRun", spec := "fnExactBandRun", unfollowed := true, recurses := true, apart := false, narrowed := true }
def FnExactBandRunUptoSaid : Prop := fnExactBandRunUptoRow.holds Try.pinned (OpenSpec.upto fnExactBandRunSpec)

/-- 'laws.FnExactChanges', WHERE WHAT IT READS IS OF BULK AT MOST 1048576: true; the input reads as it did. -/
def fnExactChangesUptoRow : OpenClaim := { program := "ytecliamihggpoaa", sum := "3e5913fcedb1670bd83c686ffc44d9d804afc899e0b396505328d4026a575642", func := "loop.example/sundials/laws.FnExactChanges", spec := "fnExactChanges", apart := false, narrowed := true }
def FnExactChangesUptoSaid : Prop := fnExactChangesUptoRow.holds Try.pinned (OpenSpec.upto fnExactChangesSpec)

/-- 'laws.FnExactBandCrosses', WHERE WHAT IT READS IS OF BULK AT MOST 1048576: true; the input reads as it did. -/
def fnExactBandCrossesUptoRow : OpenClaim := { program := "ytecliamihggpoaa", sum := "3e5913fcedb1670bd83c686ffc44d9d804afc899e0b396505328d4026a575642", func := "loop.example/sundials/laws.FnExactBandCrosses", spec := "fnExactBandCrosses", unfollowed := true, recurses := true, apart := false, narrowed := true }
def FnExactBandCrossesUptoSaid : Prop := fnExactBandCrossesUptoRow.holds Try.pinned (OpenSpec.upto fnExactBandCrossesSpec)

/-- 'laws.FnExactBlindValid', WHERE WHAT IT READS IS OF BULK AT MOST 1048576: true; the input reads as it did. -/
def fnExactBlindValidUptoRow : OpenClaim := { program := "ytecliamihggpoaa", sum := "3e5913fcedb1670bd83c686ffc44d9d804afc899e0b396505328d4026a575642", func := "loop.example/sundials/laws.FnExactBlindValid", spec := "fnExactBlindValid", apart := false, narrowed := true }
def FnExactBlindValidUptoSaid : Prop := fnExactBlindValidUptoRow.holds Try.pinned (OpenSpec.upto fnExactBlindValidSpec)

/-- 'laws.FnExactPauseStep', WHERE WHAT IT READS IS OF BULK AT MOST 1048576: true; the input reads as it did. -/
def fnExactPauseStepUptoRow : OpenClaim := { program := "ytecliamihggpoaa", sum := "3e5913fcedb1670bd83c686ffc44d9d804afc899e0b396505328d4026a575642", func := "loop.example/sundials/laws.FnExactPauseStep", spec := "fnExactPauseStep", apart := false, narrowed := true }
def FnExactPauseStepUptoSaid : Prop := fnExactPauseStepUptoRow.holds Try.pinned (OpenSpec.upto fnExactPauseStepSpec)

/-- 'laws.FnExactPauseRun', WHERE WHAT IT READS IS OF BULK AT MOST 1048576: true; the input reads as it did. -/
def fnExactPauseRunUptoRow : OpenClaim := { program := "ytecliamihggpoaa", sum := "3e5913fcedb1670bd83c686ffc44d9d804afc899e0b396505328d4026a575642", func := "loop.example/sundials/laws.FnExactPauseRun", spec := "fnExactPauseRun", unfollowed := true, recurses := true, apart := false, narrowed := true }
def FnExactPauseRunUptoSaid : Prop := fnExactPauseRunUptoRow.holds Try.pinned (OpenSpec.upto fnExactPauseRunSpec)

end Rows
end Go.Proofs.Ytecliamihggpoaa
