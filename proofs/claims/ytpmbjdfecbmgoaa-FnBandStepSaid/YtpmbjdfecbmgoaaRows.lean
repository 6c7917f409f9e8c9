/-
  No cell of these rows narrows 'for every input' (looked for: loops, veiled, ifaces, maps, wideKeys, modest, calm, conditions, laid).
  DERIVED. THE GIVEN ROWS OF THIS SEAT. 9 by the template 'for every input the law returns true; each argument reads behind the call as it read before'; 0 by the template 'total and deterministic' (their statements: YtpmbjdfecbmgoaaTotals.lean).
  GIVEN WITH THE SEED: the statements are not yours to turn. If you find one false, say at which input.
  Laid BY PROGRAM, IN A SANDBOX (cutbox-rows.mjs): the forced cells as the released guide's own fill.sh prints them over the translation 31eb5dbfe364197e… (all of the seat's roots in one cut). By AI agents, Wed Nov 11 2026. No macro, syntax, notation, axiom, sorry.
-/
import Derived.Test.YtpmbjdfecbmgoaaChecked
import GoSem.Claim
import GoSem.ClaimJoined
import GoSem.ClaimMapViews
import Derived.JoinedTies
import Derived.KernelRfl
namespace Go.Proofs.Ytpmbjdfecbmgoaa
/- THE CELL 'sum', in the pinned program and in every row, IS THE sha256 OF THE DUMP (.gsa) THAT YtpmbjdfecbmgoaaProg.lean LOADS. Nothing in Lean hashes anything: it is a label: what it is worth is what the hold of that sum in a sandbox is worth. -/
noncomputable def Try.pinned : Pinned := { name := "ytpmbjdfecbmgoaa", sum := "31eb5dbfe364197ef945ab626b7142e3ba2ee22b075a86080d31ccaa72e8b2e7", checked := Try.checked }
namespace Rows
def none {H : Type} : Left H := { results := [], args := [] }

/-- 'laws.FnBandValid': WHATEVER THE INPUT: true; the input reads as it did. -/
def fnBandValidSpec : ChangeSpec := { name := "fnBandValid", fn := fun _ => fun
  | [d] => { results := [.lit (.bool true)], args := [d] }
  | _ => none }
def fnBandValidRow : OpenClaim := { program := "ytpmbjdfecbmgoaa", sum := "31eb5dbfe364197ef945ab626b7142e3ba2ee22b075a86080d31ccaa72e8b2e7", func := "loop.example/sundials/laws.FnBandValid", spec := "fnBandValid", apart := false }
def FnBandValidSaid : Prop := fnBandValidRow.holds Try.pinned (OpenSpec.ofChange fnBandValidSpec)

/-- ITS FALSE NEIGHBOUR: 'it returns false'. Refute it at one input. -/
def fnBandValidWrong : ChangeSpec := { name := "fnBandValid", fn := fun _ => fun
  | [d] => { results := [.lit (.bool false)], args := [d] }
  | _ => none }
def FnBandValidWrongFalsely : Prop := fnBandValidRow.holds Try.pinned (OpenSpec.ofChange fnBandValidWrong)

/-- 'laws.FnLightsValid': WHATEVER THE INPUT: true; the input reads as it did. -/
def fnLightsValidSpec : ChangeSpec := { name := "fnLightsValid", fn := fun _ => fun
  | [d] => { results := [.lit (.bool true)], args := [d] }
  | _ => none }
def fnLightsValidRow : OpenClaim := { program := "ytpmbjdfecbmgoaa", sum := "31eb5dbfe364197ef945ab626b7142e3ba2ee22b075a86080d31ccaa72e8b2e7", func := "loop.example/sundials/laws.FnLightsValid", spec := "fnLightsValid", unfollowed := true, recurses := true, apart := false }
def FnLightsValidSaid : Prop := fnLightsValidRow.holds Try.pinned (OpenSpec.ofChange fnLightsValidSpec)

/-- ITS FALSE NEIGHBOUR: 'it returns false'. Refute it at one input. -/
def fnLightsValidWrong : ChangeSpec := { name := "fnLightsValid", fn := fun _ => fun
  | [d] => { results := [.lit (.bool false)], args := [d] }
  | _ => none }
def FnLightsValidWrongFalsely : Prop := fnLightsValidRow.holds Try.pinned (OpenSpec.ofChange fnLightsValidWrong)

/-- 'laws.FnBandStep': WHATEVER THE INPUT: true; the input reads as it did. -/
def fnBandStepSpec : ChangeSpec := { name := "fnBandStep", fn := fun _ => fun
  | [d] => { results := [.lit (.bool true)], args := [d] }
  | _ => none }
def fnBandStepRow : OpenClaim := { program := "ytpmbjdfecbmgoaa", sum := "31eb5dbfe364197ef945ab626b7142e3ba2ee22b075a86080d31ccaa72e8b2e7", func := "loop.example/sundials/laws.FnBandStep", spec := "fnBandStep", apart := false }
def FnBandStepSaid : Prop := fnBandStepRow.holds Try.pinned (OpenSpec.ofChange fnBandStepSpec)

/-- ITS FALSE NEIGHBOUR: 'it returns false'. Refute it at one input. -/
def fnBandStepWrong : ChangeSpec := { name := "fnBandStep", fn := fun _ => fun
  | [d] => { results := [.lit (.bool false)], args := [d] }
  | _ => none }
def FnBandStepWrongFalsely : Prop := fnBandStepRow.holds Try.pinned (OpenSpec.ofChange fnBandStepWrong)

/-- 'laws.FnBandRun': WHATEVER THE INPUT: true; the input reads as it did. -/
def fnBandRunSpec : ChangeSpec := { name := "fnBandRun", fn := fun _ => fun
  | [d] => { results := [.lit (.bool true)], args := [d] }
  | _ => none }
def fnBandRunRow : OpenClaim := { program := "ytpmbjdfecbmgoaa", sum := "31eb5dbfe364197ef945ab626b7142e3ba2ee22b075a86080d31ccaa72e8b2e7", func := "loop.example/sundials/laws.FnBandRun", spec := "fnBandRun", unfollowed := true, recurses := true, apart := false }
def FnBandRunSaid : Prop := fnBandRunRow.holds Try.pinned (OpenSpec.ofChange fnBandRunSpec)

/-- ITS FALSE NEIGHBOUR: 'it returns false'. Refute it at one input. -/
def fnBandRunWrong : ChangeSpec := { name := "fnBandRun", fn := fun _ => fun
  | [d] => { results := [.lit (.bool false)], args := [d] }
  | _ => none }
def FnBandRunWrongFalsely : Prop := fnBandRunRow.holds Try.pinned (OpenSpec.ofChange fnBandRunWrong)

/-- 'laws.FnChanges': WHATEVER THE INPUT: true; the input reads as it did. -/
def fnChangesSpec : ChangeSpec := { name := "fnChanges", fn := fun _ => fun
  | [d] => { results := [.lit (.bool true)], args := [d] }
  | _ => none }
def fnChangesRow : OpenClaim := { program := "ytpmbjdfecbmgoaa", sum := "31eb5dbfe364197ef945ab626b7142e3ba2ee22b075a86080d31ccaa72e8b2e7", func := "loop.example/sundials/laws.FnChanges", spec := "fnChanges", apart := false }
def FnChangesSaid : Prop := fnChangesRow.holds Try.pinned (OpenSpec.ofChange fnChangesSpec)

/-- ITS FALSE NEIGHBOUR: 'it returns false'. Refute it at one input. -/
def fnChangesWrong : ChangeSpec := { name := "fnChanges", fn := fun _ => fun
  | [d] => { results := [.lit (.bool false)], args := [d] }
  | _ => none }
def FnChangesWrongFalsely : Prop := fnChangesRow.holds Try.pinned (OpenSpec.ofChange fnChangesWrong)

/-- 'laws.FnBandCrosses': WHATEVER THE INPUT: true; the input reads as it did. -/
def fnBandCrossesSpec : ChangeSpec := { name := "fnBandCrosses", fn := fun _ => fun
  | [d] => { results := [.lit (.bool true)], args := [d] }
  | _ => none }
def fnBandCrossesRow : OpenClaim := { program := "ytpmbjdfecbmgoaa", sum := "31eb5dbfe364197ef945ab626b7142e3ba2ee22b075a86080d31ccaa72e8b2e7", func := "loop.example/sundials/laws.FnBandCrosses", spec := "fnBandCrosses", unfollowed := true, recurses := true, apart := false }
def FnBandCrossesSaid : Prop := fnBandCrossesRow.holds Try.pinned (OpenSpec.ofChange fnBandCrossesSpec)

/-- ITS FALSE NEIGHBOUR: 'it returns false'. Refute it at one input. -/
def fnBandCrossesWrong : ChangeSpec := { name := "fnBandCrosses", fn := fun _ => fun
  | [d] => { results := [.lit (.bool false)], args := [d] }
  | _ => none }
def FnBandCrossesWrongFalsely : Prop := fnBandCrossesRow.holds Try.pinned (OpenSpec.ofChange fnBandCrossesWrong)

/-- 'laws.FnBlindValid': WHATEVER THE INPUT: true; the input reads as it did. -/
def fnBlindValidSpec : ChangeSpec := { name := "fnBlindValid", fn := fun _ => fun
  | [d] => { results := [.lit (.bool true)], args := [d] }
  | _ => none }
def fnBlindValidRow : OpenClaim := { program := "ytpmbjdfecbmgoaa", sum := "31eb5dbfe364197ef945ab626b7142e3ba2ee22b075a86080d31ccaa72e8b2e7", func := "loop.example/sundials/laws.FnBlindValid", spec := "fnBlindValid", apart := false }
def FnBlindValidSaid : Prop := fnBlindValidRow.holds Try.pinned (OpenSpec.ofChange fnBlindValidSpec)

/-- ITS FALSE NEIGHBOUR: 'it returns false'. Refute it at one input. -/
def fnBlindValidWrong : ChangeSpec := { name := "fnBlindValid", fn := fun _ => fun
  | [d] => { results := [.lit (.bool false)], args := [d] }
  | _ => none }
def FnBlindValidWrongFalsely : Prop := fnBlindValidRow.holds Try.pinned (OpenSpec.ofChange fnBlindValidWrong)

/-- 'laws.FnPauseStep': WHATEVER THE INPUT: true; the input reads as it did. -/
def fnPauseStepSpec : ChangeSpec := { name := "fnPauseStep", fn := fun _ => fun
  | [d] => { results := [.lit (.bool true)], args := [d] }
  | _ => none }
def fnPauseStepRow : OpenClaim := { program := "ytpmbjdfecbmgoaa", sum := "31eb5dbfe364197ef945ab626b7142e3ba2ee22b075a86080d31ccaa72e8b2e7", func := "loop.example/sundials/laws.FnPauseStep", spec := "fnPauseStep", apart := false }
def FnPauseStepSaid : Prop := fnPauseStepRow.holds Try.pinned (OpenSpec.ofChange fnPauseStepSpec)

/-- ITS FALSE NEIGHBOUR: 'it returns false'. Refute it at one input. -/
def fnPauseStepWrong : ChangeSpec := { name := "fnPauseStep", fn := fun _ => fun
  | [d] => { results := [.lit (.bool false)], args := [d] }
  | _ => none }
def FnPauseStepWrongFalsely : Prop := fnPauseStepRow.holds Try.pinned (OpenSpec.ofChange fnPauseStepWrong)

/-- 'laws.FnPauseRun': WHATEVER THE INPUT: true; the input reads as it did. -/
def fnPauseRunSpec : ChangeSpec := { name := "fnPauseRun", fn := fun _ => fun
  | [d] => { results := [.lit (.bool true)], args := [d] }
  | _ => none }
def fnPauseRunRow : OpenClaim := { program := "ytpmbjdfecbmgoaa", sum := "31eb5dbfe364197ef945ab626b7142e3ba2ee22b075a86080d31ccaa72e8b2e7", func := "loop.example/sundials/laws.FnPauseRun", spec := "fnPauseRun", unfollowed := true, recurses := true, apart := false }
def FnPauseRunSaid : Prop := fnPauseRunRow.holds Try.pinned (OpenSpec.ofChange fnPauseRunSpec)

/-- ITS FALSE NEIGHBOUR: 'it returns false'. Refute it at one input. -/
def fnPauseRunWrong : ChangeSpec := { name := "fnPauseRun", fn := fun _ => fun
  | [d] => { results := [.lit (.bool false)], args := [d] }
  | _ => none }
def FnPauseRunWrongFalsely : Prop := fnPauseRunRow.holds Try.pinned (OpenSpec.ofChange fnPauseRunWrong)

/- THE SECOND FORM. 'bulk': how many values and letters a reading holds, each counted each time it is reached (what is shared counts as often as it is met; a slice's spare places count too). A statement '..UptoSaid' is the law's where the arguments, and the package variables that the reading takes, are together of bulk at most 1048576: NARROWER than '..Said'. Prove '..Said' where nothing that the law and all that it calls make is longer than what came in: it says more and counts as full. Else prove '..UptoSaid'. A law counts once. -/
mutual
def uptoBulk {H : Type} : DataW H → Nat
  | .lit (.string bytes) => bytes.length + 1
  | .lit _ => 1
  | .nil => 1
  | .ptr d => uptoBulk d + 1
  | .slice elems spare => uptoBulkAll elems + uptoBulkAll spare + 1
  | .agg parts => uptoBulkAll parts + 1
  | .iface _ d => uptoBulk d + 1
  | .map entries => uptoBulkEntries entries + 1
  | .held _ => 1
def uptoBulkAll {H : Type} : List (DataW H) → Nat
  | [] => 0
  | d :: r => uptoBulk d + uptoBulkAll r
def uptoBulkEntries {H : Type} : List (Lit × DataW H) → Nat
  | [] => 0
  | x :: r => uptoBulkEntry x + uptoBulkEntries r
def uptoBulkEntry {H : Type} : Lit × DataW H → Nat
  | (.string bytes, d) => bytes.length + uptoBulk d + 1
  | (_, d) => uptoBulk d + 1
 end
def uptoSmall : (H : Type) → List (DataW H) → Bool := fun _ ds => decide (uptoBulkAll ds ≤ 1048576)
def OpenSpec.upto (s : _root_.Go.ChangeSpec) : _root_.Go.OpenSpec := { _root_.Go.OpenSpec.ofChange s with cond := some uptoSmall }

/-- 'laws.FnBandValid', WHERE WHAT IT READS IS OF BULK AT MOST 1048576: true; the input reads as it did. -/
def fnBandValidUptoRow : OpenClaim := { program := "ytpmbjdfecbmgoaa", sum := "31eb5dbfe364197ef945ab626b7142e3ba2ee22b075a86080d31ccaa72e8b2e7", func := "loop.example/sundials/laws.FnBandValid", spec := "fnBandValid", apart := false, narrowed := true }
def FnBandValidUptoSaid : Prop := fnBandValidUptoRow.holds Try.pinned (OpenSpec.upto fnBandValidSpec)

/-- 'laws.FnLightsValid', WHERE WHAT IT READS IS OF BULK AT MOST 1048576: true; the input reads as it did. -/
def fnLightsValidUptoRow : OpenClaim := { program := "ytpmbjdfecbmgoaa", sum := "31eb5dbfe364197ef945ab626b7142e3ba2ee22b075a86080d31ccaa72e8b2e7", func := "loop.example/sundials/laws.FnLightsValid", spec := "fnLightsValid", unfollowed := true, recurses := true, apart := false, narrowed := true }
def FnLightsValidUptoSaid : Prop := fnLightsValidUptoRow.holds Try.pinned (OpenSpec.upto fnLightsValidSpec)

/-- 'laws.FnBandStep', WHERE WHAT IT READS IS OF BULK AT MOST 1048576: true; the input reads as it did. -/
def fnBandStepUptoRow : OpenClaim := { program := "ytpmbjdfecbmgoaa", sum := "31eb5dbfe364197ef945ab626b7142e3ba2ee22b075a86080d31ccaa72e8b2e7", func := "loop.example/sundials/laws.FnBandStep", spec := "fnBandStep", apart := false, narrowed := true }
def FnBandStepUptoSaid : Prop := fnBandStepUptoRow.holds Try.pinned (OpenSpec.upto fnBandStepSpec)

/-- 'laws.FnBandRun', WHERE WHAT IT READS IS OF BULK AT MOST 1048576: true; the input reads as it did. -/
def fnBandRunUptoRow : OpenClaim := { program := "ytpmbjdfecbmgoaa", sum := "31eb5dbfe364197ef945ab626b7142e3ba2ee22b075a86080d31ccaa72e8b2e7", func := "loop.example/sundials/laws.FnBandRun", spec := "fnBandRun", unfollowed := true, recurses := true, apart := false, narrowed := true }
def FnBandRunUptoSaid : Prop := fnBandRunUptoRow.holds Try.pinned (OpenSpec.upto fnBandRunSpec)

/-- 'laws.FnChanges', WHERE WHAT IT READS IS OF BULK AT MOST 1048576: true; the input reads as it did. -/
def fnChangesUptoRow : OpenClaim := { program := "ytpmbjdfecbmgoaa", sum := "31eb5dbfe364197ef945ab626b7142e3ba2ee22b075a86080d31ccaa72e8b2e7", func := "loop.example/sundials/laws.FnChanges", spec := "fnChanges", apart := false, narrowed := true }
def FnChangesUptoSaid : Prop := fnChangesUptoRow.holds Try.pinned (OpenSpec.upto fnChangesSpec)

/-- 'laws.FnBandCrosses', WHERE WHAT IT READS IS OF BULK AT MOST 1048576: true; the input reads as it did. -/
def fnBandCrossesUptoRow : OpenClaim := { program := "ytpmbjdfecbmgoaa", sum := "31eb5dbfe364197ef945ab626b7142e3ba2ee22b075a86080d31ccaa72e8b2e7", func := "loop.example/sundials/laws.FnBandCrosses", spec := "fnBandCrosses", unfollowed := true, recurses := true, apart := false, narrowed := true }
def FnBandCrossesUptoSaid : Prop := fnBandCrossesUptoRow.holds Try.pinned (OpenSpec.upto fnBandCrossesSpec)

/-- 'laws.FnBlindValid', WHERE WHAT IT READS IS OF BULK AT MOST 1048576: true; the input reads as it did. -/
def fnBlindValidUptoRow : OpenClaim := { program := "ytpmbjdfecbmgoaa", sum := "31eb5dbfe364197ef945ab626b7142e3ba2ee22b075a86080d31ccaa72e8b2e7", func := "loop.example/sundials/laws.FnBlindValid", spec := "fnBlindValid", apart := false, narrowed := true }
def FnBlindValidUptoSaid : Prop := fnBlindValidUptoRow.holds Try.pinned (OpenSpec.upto fnBlindValidSpec)

/-- 'laws.FnPauseStep', WHERE WHAT IT READS IS OF BULK AT MOST 1048576: true; the input reads as it did. -/
def fnPauseStepUptoRow : OpenClaim := { program := "ytpmbjdfecbmgoaa", sum := "31eb5dbfe364197ef945ab626b7142e3ba2ee22b075a86080d31ccaa72e8b2e7", func := "loop.example/sundials/laws.FnPauseStep", spec := "fnPauseStep", apart := false, narrowed := true }
def FnPauseStepUptoSaid : Prop := fnPauseStepUptoRow.holds Try.pinned (OpenSpec.upto fnPauseStepSpec)

/-- 'laws.FnPauseRun', WHERE WHAT IT READS IS OF BULK AT MOST 1048576: true; the input reads as it did. -/
def fnPauseRunUptoRow : OpenClaim := { program := "ytpmbjdfecbmgoaa", sum := "31eb5dbfe364197ef945ab626b7142e3ba2ee22b075a86080d31ccaa72e8b2e7", func := "loop.example/sundials/laws.FnPauseRun", spec := "fnPauseRun", unfollowed := true, recurses := true, apart := false, narrowed := true }
def FnPauseRunUptoSaid : Prop := fnPauseRunUptoRow.holds Try.pinned (OpenSpec.upto fnPauseRunSpec)

end Rows
end Go.Proofs.Ytpmbjdfecbmgoaa
