/-
  No cell of these rows narrows 'for every input' (looked for: loops, veiled, ifaces, maps, wideKeys, modest, calm, conditions, laid).
  DERIVED. THE GIVEN ROWS OF THIS SEAT. 6 by the template 'for every input the law returns true; each argument reads behind the call as it read before'; 0 by the template 'total and deterministic' (their statements: YtpmbjdfecbmgoabTotals.lean).
  GIVEN WITH THE SEED: the statements are not yours to turn. If you find one false, say at which input.
  Laid BY PROGRAM, IN A SANDBOX (cutbox-rows.mjs): the forced cells as the released guide's own fill.sh prints them over the translation 1313b2f8e87b0790… (all of the seat's roots in one cut). By AI agents, Wed Nov 11 2026. No macro, syntax, notation, axiom, sorry.
-/
import Derived.Test.YtpmbjdfecbmgoabChecked
import GoSem.Claim
import GoSem.ClaimJoined
import GoSem.ClaimMapViews
import Derived.JoinedTies
import Derived.KernelRfl
namespace Go.Proofs.Ytpmbjdfecbmgoab
/- THE CELL 'sum', in the pinned program and in every row, IS THE sha256 OF THE DUMP (.gsa) THAT YtpmbjdfecbmgoabProg.lean LOADS. Nothing in Lean hashes anything: it is a label: what it is worth is what the hold of that sum in a sandbox is worth. -/
noncomputable def Try.pinned : Pinned := { name := "ytpmbjdfecbmgoab", sum := "1313b2f8e87b07901cabe0d82658512fdbc76d594c9e19fc95d3029c971f5afe", checked := Try.checked }
namespace Rows
def none {H : Type} : Left H := { results := [], args := [] }

/-- 'laws.FnRoomStep': WHATEVER THE INPUT: true; the input reads as it did. -/
def fnRoomStepSpec : ChangeSpec := { name := "fnRoomStep", fn := fun _ => fun
  | [d] => { results := [.lit (.bool true)], args := [d] }
  | _ => none }
def fnRoomStepRow : OpenClaim := { program := "ytpmbjdfecbmgoab", sum := "1313b2f8e87b07901cabe0d82658512fdbc76d594c9e19fc95d3029c971f5afe", func := "loop.example/sundials/laws.FnRoomStep", spec := "fnRoomStep", apart := false }
def FnRoomStepSaid : Prop := fnRoomStepRow.holds Try.pinned (OpenSpec.ofChange fnRoomStepSpec)

/-- ITS FALSE NEIGHBOUR: 'it returns false'. Refute it at one input. -/
def fnRoomStepWrong : ChangeSpec := { name := "fnRoomStep", fn := fun _ => fun
  | [d] => { results := [.lit (.bool false)], args := [d] }
  | _ => none }
def FnRoomStepWrongFalsely : Prop := fnRoomStepRow.holds Try.pinned (OpenSpec.ofChange fnRoomStepWrong)

/-- 'laws.FnRoomRun': WHATEVER THE INPUT: true; the input reads as it did. -/
def fnRoomRunSpec : ChangeSpec := { name := "fnRoomRun", fn := fun _ => fun
  | [d] => { results := [.lit (.bool true)], args := [d] }
  | _ => none }
def fnRoomRunRow : OpenClaim := { program := "ytpmbjdfecbmgoab", sum := "1313b2f8e87b07901cabe0d82658512fdbc76d594c9e19fc95d3029c971f5afe", func := "loop.example/sundials/laws.FnRoomRun", spec := "fnRoomRun", unfollowed := true, recurses := true, apart := false }
def FnRoomRunSaid : Prop := fnRoomRunRow.holds Try.pinned (OpenSpec.ofChange fnRoomRunSpec)

/-- ITS FALSE NEIGHBOUR: 'it returns false'. Refute it at one input. -/
def fnRoomRunWrong : ChangeSpec := { name := "fnRoomRun", fn := fun _ => fun
  | [d] => { results := [.lit (.bool false)], args := [d] }
  | _ => none }
def FnRoomRunWrongFalsely : Prop := fnRoomRunRow.holds Try.pinned (OpenSpec.ofChange fnRoomRunWrong)

/-- 'laws.FnRoomRest': WHATEVER THE INPUT: true; the input reads as it did. -/
def fnRoomRestSpec : ChangeSpec := { name := "fnRoomRest", fn := fun _ => fun
  | [d] => { results := [.lit (.bool true)], args := [d] }
  | _ => none }
def fnRoomRestRow : OpenClaim := { program := "ytpmbjdfecbmgoab", sum := "1313b2f8e87b07901cabe0d82658512fdbc76d594c9e19fc95d3029c971f5afe", func := "loop.example/sundials/laws.FnRoomRest", spec := "fnRoomRest", apart := false }
def FnRoomRestSaid : Prop := fnRoomRestRow.holds Try.pinned (OpenSpec.ofChange fnRoomRestSpec)

/-- ITS FALSE NEIGHBOUR: 'it returns false'. Refute it at one input. -/
def fnRoomRestWrong : ChangeSpec := { name := "fnRoomRest", fn := fun _ => fun
  | [d] => { results := [.lit (.bool false)], args := [d] }
  | _ => none }
def FnRoomRestWrongFalsely : Prop := fnRoomRestRow.holds Try.pinned (OpenSpec.ofChange fnRoomRestWrong)

/-- 'laws.FnEntriesValid': WHATEVER THE INPUT: true; the input reads as it did. -/
def fnEntriesValidSpec : ChangeSpec := { name := "fnEntriesValid", fn := fun _ => fun
  | [d] => { results := [.lit (.bool true)], args := [d] }
  | _ => none }
def fnEntriesValidRow : OpenClaim := { program := "ytpmbjdfecbmgoab", sum := "1313b2f8e87b07901cabe0d82658512fdbc76d594c9e19fc95d3029c971f5afe", func := "loop.example/sundials/laws.FnEntriesValid", spec := "fnEntriesValid", apart := false }
def FnEntriesValidSaid : Prop := fnEntriesValidRow.holds Try.pinned (OpenSpec.ofChange fnEntriesValidSpec)

/-- ITS FALSE NEIGHBOUR: 'it returns false'. Refute it at one input. -/
def fnEntriesValidWrong : ChangeSpec := { name := "fnEntriesValid", fn := fun _ => fun
  | [d] => { results := [.lit (.bool false)], args := [d] }
  | _ => none }
def FnEntriesValidWrongFalsely : Prop := fnEntriesValidRow.holds Try.pinned (OpenSpec.ofChange fnEntriesValidWrong)

/-- 'laws.FnEntryAt': WHATEVER THE INPUT: true; the input reads as it did. -/
def fnEntryAtSpec : ChangeSpec := { name := "fnEntryAt", fn := fun _ => fun
  | [d] => { results := [.lit (.bool true)], args := [d] }
  | _ => none }
def fnEntryAtRow : OpenClaim := { program := "ytpmbjdfecbmgoab", sum := "1313b2f8e87b07901cabe0d82658512fdbc76d594c9e19fc95d3029c971f5afe", func := "loop.example/sundials/laws.FnEntryAt", spec := "fnEntryAt", apart := false }
def FnEntryAtSaid : Prop := fnEntryAtRow.holds Try.pinned (OpenSpec.ofChange fnEntryAtSpec)

/-- ITS FALSE NEIGHBOUR: 'it returns false'. Refute it at one input. -/
def fnEntryAtWrong : ChangeSpec := { name := "fnEntryAt", fn := fun _ => fun
  | [d] => { results := [.lit (.bool false)], args := [d] }
  | _ => none }
def FnEntryAtWrongFalsely : Prop := fnEntryAtRow.holds Try.pinned (OpenSpec.ofChange fnEntryAtWrong)

/-- 'laws.FnEntryNext': WHATEVER THE INPUT: true; the input reads as it did. -/
def fnEntryNextSpec : ChangeSpec := { name := "fnEntryNext", fn := fun _ => fun
  | [d] => { results := [.lit (.bool true)], args := [d] }
  | _ => none }
def fnEntryNextRow : OpenClaim := { program := "ytpmbjdfecbmgoab", sum := "1313b2f8e87b07901cabe0d82658512fdbc76d594c9e19fc95d3029c971f5afe", func := "loop.example/sundials/laws.FnEntryNext", spec := "fnEntryNext", apart := false }
def FnEntryNextSaid : Prop := fnEntryNextRow.holds Try.pinned (OpenSpec.ofChange fnEntryNextSpec)

/-- ITS FALSE NEIGHBOUR: 'it returns false'. Refute it at one input. -/
def fnEntryNextWrong : ChangeSpec := { name := "fnEntryNext", fn := fun _ => fun
  | [d] => { results := [.lit (.bool false)], args := [d] }
  | _ => none }
def FnEntryNextWrongFalsely : Prop := fnEntryNextRow.holds Try.pinned (OpenSpec.ofChange fnEntryNextWrong)

/- THE SECOND FORM. 'bulk': how many values and letters a reading holds, each counted each time it is reached (what is shared counts as often as it is met; a slice's spare places count too). A statement '..UptoSaid' is the law's where the arguments, and the package variables that the reading takes, are together of bulk at most 1048576: NARROWER than '..Said'. Prove '..Said' where nothing that the law and all that it calls make is longer than what came in: it says more and counts as full. Else prove '..UptoSaid'. A law counts once. -/
mutual
def uptoBulk {H : Type} : DataW H → Nat
  | .lit (.string bytes) => bytes.length + 1
  | .lit _ => 1
  | .nil => 1
  | .ptr d => uptoBulk d + 1
  | .slice elems spare => uptoBulkAll elems + uptoBulkAll spare + 1
  | .agg parts => uptoBulkAll parts + 1
  | .iface _ d => uptoBulk d + 1
  | .map entries => uptoBulkEntries entries + 1
  | .held _ => 1
def uptoBulkAll {H : Type} : List (DataW H) → Nat
  | [] => 0
  | d :: r => uptoBulk d + uptoBulkAll r
def uptoBulkEntries {H : Type} : List (Lit × DataW H) → Nat
  | [] => 0
  | x :: r => uptoBulkEntry x + uptoBulkEntries r
def uptoBulkEntry {H : Type} : Lit × DataW H → Nat
  | (.string bytes, d) => bytes.length + uptoBulk d + 1
  | (_, d) => uptoBulk d + 1
 end
def uptoSmall : (H : Type) → List (DataW H) → Bool := fun _ ds => decide (uptoBulkAll ds ≤ 1048576)
def OpenSpec.upto (s : _root_.Go.ChangeSpec) : _root_.Go.OpenSpec := { _root_.Go.OpenSpec.ofChange s with cond := some uptoSmall }

/-- 'laws.FnRoomStep', WHERE WHAT IT READS IS OF BULK AT MOST 1048576: true; the input reads as it did. -/
def fnRoomStepUptoRow : OpenClaim := { program := "ytpmbjdfecbmgoab", sum := "1313b2f8e87b07901cabe0d82658512fdbc76d594c9e19fc95d3029c971f5afe", func := "loop.example/sundials/laws.FnRoomStep", spec := "fnRoomStep", apart := false, narrowed := true }
def FnRoomStepUptoSaid : Prop := fnRoomStepUptoRow.holds Try.pinned (OpenSpec.upto fnRoomStepSpec)

/-- 'laws.FnRoomRun', WHERE WHAT IT READS IS OF BULK AT MOST 1048576: true; the input reads as it did. -/
def fnRoomRunUptoRow : OpenClaim := { program := "ytpmbjdfecbmgoab", sum := "1313b2f8e87b07901cabe0d82658512fdbc76d594c9e19fc95d3029c971f5afe", func := "loop.example/sundials/laws.FnRoomRun", spec := "fnRoomRun", unfollowed := true, recurses := true, apart := false, narrowed := true }
def FnRoomRunUptoSaid : Prop := fnRoomRunUptoRow.holds Try.pinned (OpenSpec.upto fnRoomRunSpec)

/-- 'laws.FnRoomRest', WHERE WHAT IT READS IS OF BULK AT MOST 1048576: true; the input reads as it did. -/
def fnRoomRestUptoRow : OpenClaim := { program := "ytpmbjdfecbmgoab", sum := "1313b2f8e87b07901cabe0d82658512fdbc76d594c9e19fc95d3029c971f5afe", func := "loop.example/sundials/laws.FnRoomRest", spec := "fnRoomRest", apart := false, narrowed := true }
def FnRoomRestUptoSaid : Prop := fnRoomRestUptoRow.holds Try.pinned (OpenSpec.upto fnRoomRestSpec)

/-- 'laws.FnEntriesValid', WHERE WHAT IT READS IS OF BULK AT MOST 1048576: true; the input reads as it did. -/
def fnEntriesValidUptoRow : OpenClaim := { program := "ytpmbjdfecbmgoab", sum := "1313b2f8e87b07901cabe0d82658512fdbc76d594c9e19fc95d3029c971f5afe", func := "loop.example/sundials/laws.FnEntriesValid", spec := "fnEntriesValid", apart := false, narrowed := true }
def FnEntriesValidUptoSaid : Prop := fnEntriesValidUptoRow.holds Try.pinned (OpenSpec.upto fnEntriesValidSpec)

/-- 'laws.FnEntryAt', WHERE WHAT IT READS IS OF BULK AT MOST 1048576: true; the input reads as it did. -/
def fnEntryAtUptoRow : OpenClaim := { program := "ytpmbjdfecbmgoab", sum := "1313b2f8e87b07901cabe0d82658512fdbc76d594c9e19fc95d3029c971f5afe", func := "loop.example/sundials/laws.FnEntryAt", spec := "fnEntryAt", apart := false, narrowed := true }
def FnEntryAtUptoSaid : Prop := fnEntryAtUptoRow.holds Try.pinned (OpenSpec.upto fnEntryAtSpec)

/-- 'laws.FnEntryNext', WHERE WHAT IT READS IS OF BULK AT MOST 1048576: true; the input reads as it did. -/
def fnEntryNextUptoRow : OpenClaim := { program := "ytpmbjdfecbmgoab", sum := "1313b2f8e87b07901cabe0d82658512fdbc76d594c9e19fc95d3029c971f5afe", func := "loop.example/sundials/laws.FnEntryNext", spec := "fnEntryNext", apart := false, narrowed := true }
def FnEntryNextUptoSaid : Prop := fnEntryNextUptoRow.holds Try.pinned (OpenSpec.upto fnEntryNextSpec)

end Rows
end Go.Proofs.Ytpmbjdfecbmgoab
