/-
  No cell of these rows narrows 'for every input' (looked for: loops, veiled, ifaces, maps, wideKeys, modest, calm, conditions, laid).
  DERIVED. THE GIVEN ROWS OF THIS SEAT. 6 by the template 'for every input the law returns true; each argument reads behind the call as it read before'; 0 by the template 'total and deterministic' (their statements: YtecliamihggpoabTotals.lean).
  GIVEN WITH THE SEED: the statements are not yours to turn. If you find one false, say at which input.
  Laid BY PROGRAM, IN A SANDBOX (cutbox-rows.mjs): the forced cells as the released guide's own fill.sh prints them over the translation c0ef24341a94d739… (all of the seat's roots in one cut). By AI agents, Wed Nov 11 2026. No macro, syntax, notation, axiom, sorry.
-/
import Derived.Test.YtecliamihggpoabChecked
import GoSem.Claim
import GoSem.ClaimJoined
import GoSem.ClaimMapViews
import Derived.JoinedTies
import Derived.KernelRfl
namespace Go.Proofs.Ytecliamihggpoab
/- THE CELL 'sum', in the pinned program and in every row, IS THE sha256 OF THE DUMP (.gsa) THAT YtecliamihggpoabProg.lean LOADS. Nothing in Lean hashes anything: it is a label: what it is worth is what the hold of that sum in a sandbox is worth. -/
noncomputable def Try.pinned : Pinned := { name := "ytecliamihggpoab", sum := "c0ef24341a94d739275567d4c4ce26a5a910a0d72462524095273fb3b7c528fc", checked := Try.checked }
namespace Rows
def none {H : Type} : Left H := { results := [], args := [] }

/-- 'laws.FnExactRoomStep': WHATEVER THE INPUT: true; the input reads as it did. -/
def fnExactRoomStepSpec : ChangeSpec := { name := "fnExactRoomStep", fn := fun _ => fun
  | [d1, d2, d3, d4] => { results := [.lit (.bool true)], args := [d1, d2, d3, d4] }
  | _ => none }
def fnExactRoomStepRow : OpenClaim := { program := "ytecliamihggpoab", sum := "c0ef24341a94d739275567d4c4ce26a5a910a0d72462524095273fb3b7c528fc", func := "loop.example/sundials/laws.FnExactRoomStep", spec := "fnExactRoomStep", apart := false }
def FnExactRoomStepSaid : Prop := fnExactRoomStepRow.holds Try.pinned (OpenSpec.ofChange fnExactRoomStepSpec)

/-- ITS FALSE NEIGHBOUR: 'it returns false'. Refute it at one input. -/
def fnExactRoomStepWrong : ChangeSpec := { name := "fnExactRoomStep", fn := fun _ => fun
  | [d1, d2, d3, d4] => { results := [.lit (.bool false)], args := [d1, d2, d3, d4] }
  | _ => none }
def FnExactRoomStepWrongFalsely : Prop := fnExactRoomStepRow.holds Try.pinned (OpenSpec.ofChange fnExactRoomStepWrong)

/-- 'laws.FnExactRoomRun': WHATEVER THE INPUT: true; the input reads as it did. -/
def fnExactRoomRunSpec : ChangeSpec := { name := "fnExactRoomRun", fn := fun _ => fun
  | [d1, d2, d3, d4, d5] => { results := [.lit (.bool true)], args := [d1, d2, d3, d4, d5] }
  | _ => none }
def fnExactRoomRunRow : OpenClaim := { program := "ytecliamihggpoab", sum := "c0ef24341a94d739275567d4c4ce26a5a910a0d72462524095273fb3b7c528fc", func := "loop.example/sundials/laws.FnExactRoomRun", spec := "fnExactRoomRun", unfollowed := true, recurses := true, apart := false }
def FnExactRoomRunSaid : Prop := fnExactRoomRunRow.holds Try.pinned (OpenSpec.ofChange fnExactRoomRunSpec)

/-- ITS FALSE NEIGHBOUR: 'it returns false'. Refute it at one input. -/
def fnExactRoomRunWrong : ChangeSpec := { name := "fnExactRoomRun", fn := fun _ => fun
  | [d1, d2, d3, d4, d5] => { results := [.lit (.bool false)], args := [d1, d2, d3, d4, d5] }
  | _ => none }
def FnExactRoomRunWrongFalsely : Prop := fnExactRoomRunRow.holds Try.pinned (OpenSpec.ofChange fnExactRoomRunWrong)

/-- 'laws.FnExactRoomRest': WHATEVER THE INPUT: true; the input reads as it did. -/
def fnExactRoomRestSpec : ChangeSpec := { name := "fnExactRoomRest", fn := fun _ => fun
  | [d1, d2, d3] => { results := [.lit (.bool true)], args := [d1, d2, d3] }
  | _ => none }
def fnExactRoomRestRow : OpenClaim := { program := "ytecliamihggpoab", sum := "c0ef24341a94d739275567d4c4ce26a5a910a0d72462524095273fb3b7c528fc", func := "loop.example/sundials/laws.FnExactRoomRest", spec := "fnExactRoomRest", apart := false }
def FnExactRoomRestSaid : Prop := fnExactRoomRestRow.holds Try.pinned (OpenSpec.ofChange fnExactRoomRestSpec)

/-- ITS FALSE NEIGHBOUR: 'it returns false'. Refute it at one input. -/
def fnExactRoomRestWrong : ChangeSpec := { name := "fnExactRoomRest", fn := fun _ => fun
  | [d1, d2, d3] => { results := [.lit (.bool false)], args := [d1, d2, d3] }
  | _ => none }
def FnExactRoomRestWrongFalsely : Prop := fnExactRoomRestRow.holds Try.pinned (OpenSpec.ofChange fnExactRoomRestWrong)

/-- 'laws.FnExactEntriesValid': WHATEVER THE INPUT: true; the input reads as it did. -/
def fnExactEntriesValidSpec : ChangeSpec := { name := "fnExactEntriesValid", fn := fun _ => fun
  | [d] => { results := [.lit (.bool true)], args := [d] }
  | _ => none }
def fnExactEntriesValidRow : OpenClaim := { program := "ytecliamihggpoab", sum := "c0ef24341a94d739275567d4c4ce26a5a910a0d72462524095273fb3b7c528fc", func := "loop.example/sundials/laws.FnExactEntriesValid", spec := "fnExactEntriesValid", apart := false }
def FnExactEntriesValidSaid : Prop := fnExactEntriesValidRow.holds Try.pinned (OpenSpec.ofChange fnExactEntriesValidSpec)

/-- ITS FALSE NEIGHBOUR: 'it returns false'. Refute it at one input. -/
def fnExactEntriesValidWrong : ChangeSpec := { name := "fnExactEntriesValid", fn := fun _ => fun
  | [d] => { results := [.lit (.bool false)], args := [d] }
  | _ => none }
def FnExactEntriesValidWrongFalsely : Prop := fnExactEntriesValidRow.holds Try.pinned (OpenSpec.ofChange fnExactEntriesValidWrong)

/-- 'laws.FnExactEntryAt': WHATEVER THE INPUT: true; the input reads as it did. -/
def fnExactEntryAtSpec : ChangeSpec := { name := "fnExactEntryAt", fn := fun _ => fun
  | [d1, d2] => { results := [.lit (.bool true)], args := [d1, d2] }
  | _ => none }
def fnExactEntryAtRow : OpenClaim := { program := "ytecliamihggpoab", sum := "c0ef24341a94d739275567d4c4ce26a5a910a0d72462524095273fb3b7c528fc", func := "loop.example/sundials/laws.FnExactEntryAt", spec := "fnExactEntryAt", apart := false }
def FnExactEntryAtSaid : Prop := fnExactEntryAtRow.holds Try.pinned (OpenSpec.ofChange fnExactEntryAtSpec)

/-- ITS FALSE NEIGHBOUR: 'it returns false'. Refute it at one input. -/
def fnExactEntryAtWrong : ChangeSpec := { name := "fnExactEntryAt", fn := fun _ => fun
  | [d1, d2] => { results := [.lit (.bool false)], args := [d1, d2] }
  | _ => none }
def FnExactEntryAtWrongFalsely : Prop := fnExactEntryAtRow.holds Try.pinned (OpenSpec.ofChange fnExactEntryAtWrong)

/-- 'laws.FnExactEntryNext': WHATEVER THE INPUT: true; the input reads as it did. -/
def fnExactEntryNextSpec : ChangeSpec := { name := "fnExactEntryNext", fn := fun _ => fun
  | [d1, d2] => { results := [.lit (.bool true)], args := [d1, d2] }
  | _ => none }
def fnExactEntryNextRow : OpenClaim := { program := "ytecliamihggpoab", sum := "c0ef24341a94d739275567d4c4ce26a5a910a0d72462524095273fb3b7c528fc", func := "loop.example/sundials/laws.FnExactEntryNext", spec := "fnExactEntryNext", apart := false }
def FnExactEntryNextSaid : Prop := fnExactEntryNextRow.holds Try.pinned (OpenSpec.ofChange fnExactEntryNextSpec)

/-- ITS FALSE NEIGHBOUR: 'it returns false'. Refute it at one input. -/
def fnExactEntryNextWrong : ChangeSpec := { name := "fnExactEntryNext", fn := fun _ => fun
  | [d1, d2] => { results := [.lit (.bool false)], args := [d1, d2] }
  | _ => none }
def FnExactEntryNextWrongFalsely : Prop := fnExactEntryNextRow.holds Try.pinned (OpenSpec.ofChange fnExactEntryNextWrong)

/- THE SECOND FORM. 'bulk': how many values and letters a reading holds, each counted each time it is reached (what is shared counts as often as it is met; a slice's spare places count too). A statement '..UptoSaid' is the law's where the arguments, and the package variables that the reading takes, are together of bulk at most 1048576: NARROWER than '..Said'. Prove '..Said' where nothing that the law and all that it calls make is longer than what came in: it says more and counts as full. Else prove '..UptoSaid'. A law counts once. -/
mutual
def uptoBulk {H : Type} : DataW H → Nat
  | .lit (.string bytes) => bytes.length + 1
  | .lit _ => 1
  | .nil => 1
  | .ptr d => uptoBulk d + 1
  | .slice elems spare => uptoBulkAll elems + uptoBulkAll spare + 1
  | .agg parts => uptoBulkAll parts + 1
  | .iface _ d => uptoBulk d + 1
  | .map entries => uptoBulkEntries entries + 1
  | .held _ => 1
def uptoBulkAll {H : Type} : List (DataW H) → Nat
  | [] => 0
  | d :: r => uptoBulk d + uptoBulkAll r
def uptoBulkEntries {H : Type} : List (Lit × DataW H) → Nat
  | [] => 0
  | x :: r => uptoBulkEntry x + uptoBulkEntries r
def uptoBulkEntry {H : Type} : Lit × DataW H → Nat
  | (.string bytes, d) => bytes.length + uptoBulk d + 1
  | (_, d) => uptoBulk d + 1
 end
def uptoSmall : (H : Type) → List (DataW H) → Bool := fun _ ds => decide (uptoBulkAll ds ≤ 1048576)
def OpenSpec.upto (s : _root_.Go.ChangeSpec) : _root_.Go.OpenSpec := { _root_.Go.OpenSpec.ofChange s with cond := some uptoSmall }

/-- 'laws.FnExactRoomStep', WHERE WHAT IT READS IS OF BULK AT MOST 1048576: true; the input reads as it did. -/
def fnExactRoomStepUptoRow : OpenClaim := { program := "ytecliamihggpoab", sum := "c0ef24341a94d739275567d4c4ce26a5a910a0d72462524095273fb3b7c528fc", func := "loop.example/sundials/laws.FnExactRoomStep", spec := "fnExactRoomStep", apart := false, narrowed := true }
def FnExactRoomStepUptoSaid : Prop := fnExactRoomStepUptoRow.holds Try.pinned (OpenSpec.upto fnExactRoomStepSpec)

/-- 'laws.FnExactRoomRun', WHERE WHAT IT READS IS OF BULK AT MOST 1048576: true; the input reads as it did. -/
def fnExactRoomRunUptoRow : OpenClaim := { program := "ytecliamihggpoab", sum := "c0ef24341a94d739275567d4c4ce26a5a910a0d72462524095273fb3b7c528fc", func := "loop.example/sundials/laws.FnExactRoomRun", spec := "fnExactRoomRun", unfollowed := true, recurses := true, apart := false, narrowed := true }
def FnExactRoomRunUptoSaid : Prop := fnExactRoomRunUptoRow.holds Try.pinned (OpenSpec.upto fnExactRoomRunSpec)

/-- 'laws.FnExactRoomRest', WHERE WHAT IT READS IS OF BULK AT MOST 1048576: true; the input reads as it did. -/
def fnExactRoomRestUptoRow : OpenClaim := { program := "ytecliamihggpoab", sum := "c0ef24341a94d739275567d4c4ce26a5a910a0d72462524095273fb3b7c528fc", func := "loop.example/sundials/laws.FnExactRoomRest", spec := "fnExactRoomRest", apart := false, narrowed := true }
def FnExactRoomRestUptoSaid : Prop := fnExactRoomRestUptoRow.holds Try.pinned (OpenSpec.upto fnExactRoomRestSpec)

/-- 'laws.FnExactEntriesValid', WHERE WHAT IT READS IS OF BULK AT MOST 1048576: true; the input reads as it did. -/
def fnExactEntriesValidUptoRow : OpenClaim := { program := "ytecliamihggpoab", sum := "c0ef24341a94d739275567d4c4ce26a5a910a0d72462524095273fb3b7c528fc", func := "loop.example/sundials/laws.FnExactEntriesValid", spec := "fnExactEntriesValid", apart := false, narrowed := true }
def FnExactEntriesValidUptoSaid : Prop := fnExactEntriesValidUptoRow.holds Try.pinned (OpenSpec.upto fnExactEntriesValidSpec)

/-- 'laws.FnExactEntryAt', WHERE WHAT IT READS IS OF BULK AT MOST 1048576: true; the input reads as it did. -/
def fnExactEntryAtUptoRow : OpenClaim := { program := "ytecliamihggpoab", sum := "c0ef24341a94d739275567d4c4ce26a5a910a0d72462524095273fb3b7c528fc", func := "loop.example/sundials/laws.FnExactEntryAt", spec := "fnExactEntryAt", apart := false, narrowed := true }
def FnExactEntryAtUptoSaid : Prop := fnExactEntryAtUptoRow.holds Try.pinned (OpenSpec.upto fnExactEntryAtSpec)

/-- 'laws.FnExactEntryNext', WHERE WHAT IT READS IS OF BULK AT MOST 1048576: true; the input reads as it did. -/
def fnExactEntryNextUptoRow : OpenClaim := { program := "ytecliamihggpoab", sum := "c0ef24341a94d739275567d4c4ce26a5a910a0d72462524095273fb3b7c528fc", func := "loop.example/sundials/laws.FnExactEntryNext", spec := "fnExactEntryNext", apart := false, narrowed := true }
def FnExactEntryNextUptoSaid : Prop := fnExactEntryNextUptoRow.holds Try.pinned (OpenSpec.upto fnExactEntryNextSpec)

end Rows
end Go.Proofs.Ytecliamihggpoab
