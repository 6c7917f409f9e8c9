/-
  No cell of these rows narrows 'for every input' (looked for: loops, veiled, ifaces, maps, wideKeys, modest, calm, conditions, laid).
  DERIVED. THE GIVEN ROWS OF THIS SEAT. 8 by the template 'for every input the law returns true; each argument reads behind the call as it read before'; 0 by the template 'total and deterministic' (their statements: YtfgaggdiepielabTotals.lean).
  GIVEN WITH THE SEED: the statements are not yours to turn. If you find one false, say at which input.
  Laid BY PROGRAM, IN A SANDBOX (cutbox-rows.mjs): the forced cells as the released guide's own fill.sh prints them over the translation f0fdcccab8a45ff3… (all of the seat's roots in one cut). By AI agents, Wed Nov 11 2026. No macro, syntax, notation, axiom, sorry.
-/
import Derived.Test.YtfgaggdiepielabChecked
import GoSem.Claim
import GoSem.ClaimJoined
import GoSem.ClaimMapViews
import Derived.JoinedTies
import Derived.KernelRfl
namespace Go.Proofs.Ytfgaggdiepielab
/- THE CELL 'sum', in the pinned program and in every row, IS THE sha256 OF THE DUMP (.gsa) THAT YtfgaggdiepielabProg.lean LOADS. Nothing in Lean hashes anything: it is a label: what it is worth is what the hold of that sum in a sandbox is worth. -/
noncomputable def Try.pinned : Pinned := { name := "ytfgaggdiepielab", sum := "f0fdcccab8a45ff371367ec1a156659608dbae4138fc1998074daf1198c7d7d2", checked := Try.checked }
namespace Rows
def none {H : Type} : Left H := { results := [], args := [] }

/-- 'laws.FnHoursValid': WHATEVER THE INPUT: true; the input reads as it did. -/
def fnHoursValidSpec : ChangeSpec := { name := "fnHoursValid", fn := fun _ => fun
  | [d] => { results := [.lit (.bool true)], args := [d] }
  | _ => none }
def fnHoursValidRow : OpenClaim := { program := "ytfgaggdiepielab", sum := "f0fdcccab8a45ff371367ec1a156659608dbae4138fc1998074daf1198c7d7d2", func := "loop.example/sundials/laws.FnHoursValid", spec := "fnHoursValid", unfollowed := true, recurses := true, apart := false }
def FnHoursValidSaid : Prop := fnHoursValidRow.holds Try.pinned (OpenSpec.ofChange fnHoursValidSpec)

/-- ITS FALSE NEIGHBOUR: 'it returns false'. Refute it at one input. -/
def fnHoursValidWrong : ChangeSpec := { name := "fnHoursValid", fn := fun _ => fun
  | [d] => { results := [.lit (.bool false)], args := [d] }
  | _ => none }
def FnHoursValidWrongFalsely : Prop := fnHoursValidRow.holds Try.pinned (OpenSpec.ofChange fnHoursValidWrong)

/-- 'laws.FnStoreRun': WHATEVER THE INPUT: true; the input reads as it did. -/
def fnStoreRunSpec : ChangeSpec := { name := "fnStoreRun", fn := fun _ => fun
  | [d] => { results := [.lit (.bool true)], args := [d] }
  | _ => none }
def fnStoreRunRow : OpenClaim := { program := "ytfgaggdiepielab", sum := "f0fdcccab8a45ff371367ec1a156659608dbae4138fc1998074daf1198c7d7d2", func := "loop.example/sundials/laws.FnStoreRun", spec := "fnStoreRun", unfollowed := true, recurses := true, apart := false }
def FnStoreRunSaid : Prop := fnStoreRunRow.holds Try.pinned (OpenSpec.ofChange fnStoreRunSpec)

/-- ITS FALSE NEIGHBOUR: 'it returns false'. Refute it at one input. -/
def fnStoreRunWrong : ChangeSpec := { name := "fnStoreRun", fn := fun _ => fun
  | [d] => { results := [.lit (.bool false)], args := [d] }
  | _ => none }
def FnStoreRunWrongFalsely : Prop := fnStoreRunRow.holds Try.pinned (OpenSpec.ofChange fnStoreRunWrong)

/-- 'laws.FnStoreLack': WHATEVER THE INPUT: true; the input reads as it did. -/
def fnStoreLackSpec : ChangeSpec := { name := "fnStoreLack", fn := fun _ => fun
  | [d] => { results := [.lit (.bool true)], args := [d] }
  | _ => none }
def fnStoreLackRow : OpenClaim := { program := "ytfgaggdiepielab", sum := "f0fdcccab8a45ff371367ec1a156659608dbae4138fc1998074daf1198c7d7d2", func := "loop.example/sundials/laws.FnStoreLack", spec := "fnStoreLack", unfollowed := true, recurses := true, apart := false }
def FnStoreLackSaid : Prop := fnStoreLackRow.holds Try.pinned (OpenSpec.ofChange fnStoreLackSpec)

/-- ITS FALSE NEIGHBOUR: 'it returns false'. Refute it at one input. -/
def fnStoreLackWrong : ChangeSpec := { name := "fnStoreLack", fn := fun _ => fun
  | [d] => { results := [.lit (.bool false)], args := [d] }
  | _ => none }
def FnStoreLackWrongFalsely : Prop := fnStoreLackRow.holds Try.pinned (OpenSpec.ofChange fnStoreLackWrong)

/-- 'laws.FnStoreLost': WHATEVER THE INPUT: true; the input reads as it did. -/
def fnStoreLostSpec : ChangeSpec := { name := "fnStoreLost", fn := fun _ => fun
  | [d] => { results := [.lit (.bool true)], args := [d] }
  | _ => none }
def fnStoreLostRow : OpenClaim := { program := "ytfgaggdiepielab", sum := "f0fdcccab8a45ff371367ec1a156659608dbae4138fc1998074daf1198c7d7d2", func := "loop.example/sundials/laws.FnStoreLost", spec := "fnStoreLost", unfollowed := true, recurses := true, apart := false }
def FnStoreLostSaid : Prop := fnStoreLostRow.holds Try.pinned (OpenSpec.ofChange fnStoreLostSpec)

/-- ITS FALSE NEIGHBOUR: 'it returns false'. Refute it at one input. -/
def fnStoreLostWrong : ChangeSpec := { name := "fnStoreLost", fn := fun _ => fun
  | [d] => { results := [.lit (.bool false)], args := [d] }
  | _ => none }
def FnStoreLostWrongFalsely : Prop := fnStoreLostRow.holds Try.pinned (OpenSpec.ofChange fnStoreLostWrong)

/-- 'laws.FnStoreFor': WHATEVER THE INPUT: true; the input reads as it did. -/
def fnStoreForSpec : ChangeSpec := { name := "fnStoreFor", fn := fun _ => fun
  | [d] => { results := [.lit (.bool true)], args := [d] }
  | _ => none }
def fnStoreForRow : OpenClaim := { program := "ytfgaggdiepielab", sum := "f0fdcccab8a45ff371367ec1a156659608dbae4138fc1998074daf1198c7d7d2", func := "loop.example/sundials/laws.FnStoreFor", spec := "fnStoreFor", unfollowed := true, recurses := true, apart := false }
def FnStoreForSaid : Prop := fnStoreForRow.holds Try.pinned (OpenSpec.ofChange fnStoreForSpec)

/-- ITS FALSE NEIGHBOUR: 'it returns false'. Refute it at one input. -/
def fnStoreForWrong : ChangeSpec := { name := "fnStoreFor", fn := fun _ => fun
  | [d] => { results := [.lit (.bool false)], args := [d] }
  | _ => none }
def FnStoreForWrongFalsely : Prop := fnStoreForRow.holds Try.pinned (OpenSpec.ofChange fnStoreForWrong)

/-- 'laws.FnStoreGap': WHATEVER THE INPUT: true; the input reads as it did. -/
def fnStoreGapSpec : ChangeSpec := { name := "fnStoreGap", fn := fun _ => fun
  | [d] => { results := [.lit (.bool true)], args := [d] }
  | _ => none }
def fnStoreGapRow : OpenClaim := { program := "ytfgaggdiepielab", sum := "f0fdcccab8a45ff371367ec1a156659608dbae4138fc1998074daf1198c7d7d2", func := "loop.example/sundials/laws.FnStoreGap", spec := "fnStoreGap", unfollowed := true, recurses := true, apart := false }
def FnStoreGapSaid : Prop := fnStoreGapRow.holds Try.pinned (OpenSpec.ofChange fnStoreGapSpec)

/-- ITS FALSE NEIGHBOUR: 'it returns false'. Refute it at one input. -/
def fnStoreGapWrong : ChangeSpec := { name := "fnStoreGap", fn := fun _ => fun
  | [d] => { results := [.lit (.bool false)], args := [d] }
  | _ => none }
def FnStoreGapWrongFalsely : Prop := fnStoreGapRow.holds Try.pinned (OpenSpec.ofChange fnStoreGapWrong)

/-- 'laws.FnLoadsValid': WHATEVER THE INPUT: true; the input reads as it did. -/
def fnLoadsValidSpec : ChangeSpec := { name := "fnLoadsValid", fn := fun _ => fun
  | [d] => { results := [.lit (.bool true)], args := [d] }
  | _ => none }
def fnLoadsValidRow : OpenClaim := { program := "ytfgaggdiepielab", sum := "f0fdcccab8a45ff371367ec1a156659608dbae4138fc1998074daf1198c7d7d2", func := "loop.example/sundials/laws.FnLoadsValid", spec := "fnLoadsValid", unfollowed := true, recurses := true, apart := false }
def FnLoadsValidSaid : Prop := fnLoadsValidRow.holds Try.pinned (OpenSpec.ofChange fnLoadsValidSpec)

/-- ITS FALSE NEIGHBOUR: 'it returns false'. Refute it at one input. -/
def fnLoadsValidWrong : ChangeSpec := { name := "fnLoadsValid", fn := fun _ => fun
  | [d] => { results := [.lit (.bool false)], args := [d] }
  | _ => none }
def FnLoadsValidWrongFalsely : Prop := fnLoadsValidRow.holds Try.pinned (OpenSpec.ofChange fnLoadsValidWrong)

/-- 'laws.FnLoadsBound': WHATEVER THE INPUT: true; the input reads as it did. -/
def fnLoadsBoundSpec : ChangeSpec := { name := "fnLoadsBound", fn := fun _ => fun
  | [d] => { results := [.lit (.bool true)], args := [d] }
  | _ => none }
def fnLoadsBoundRow : OpenClaim := { program := "ytfgaggdiepielab", sum := "f0fdcccab8a45ff371367ec1a156659608dbae4138fc1998074daf1198c7d7d2", func := "loop.example/sundials/laws.FnLoadsBound", spec := "fnLoadsBound", unfollowed := true, recurses := true, apart := false }
def FnLoadsBoundSaid : Prop := fnLoadsBoundRow.holds Try.pinned (OpenSpec.ofChange fnLoadsBoundSpec)

/-- ITS FALSE NEIGHBOUR: 'it returns false'. Refute it at one input. -/
def fnLoadsBoundWrong : ChangeSpec := { name := "fnLoadsBound", fn := fun _ => fun
  | [d] => { results := [.lit (.bool false)], args := [d] }
  | _ => none }
def FnLoadsBoundWrongFalsely : Prop := fnLoadsBoundRow.holds Try.pinned (OpenSpec.ofChange fnLoadsBoundWrong)

/- THE SECOND FORM. 'bulk': how many values and letters a reading holds, each counted each time it is reached (what is shared counts as often as it is met; a slice's spare places count too). A statement '..UptoSaid' is the law's where the arguments, and the package variables that the reading takes, are together of bulk at most 1048576: NARROWER than '..Said'. Prove '..Said' where nothing that the law and all that it calls make is longer than what came in: it says more and counts as full. Else prove '..UptoSaid'. A law counts once. -/
mutual
def uptoBulk {H : Type} : DataW H → Nat
  | .lit (.string bytes) => bytes.length + 1
  | .lit _ => 1
  | .nil => 1
  | .ptr d => uptoBulk d + 1
  | .slice elems spare => uptoBulkAll elems + uptoBulkAll spare + 1
  | .agg parts => uptoBulkAll parts + 1
  | .iface _ d => uptoBulk d + 1
  | .map entries => uptoBulkEntries entries + 1
  | .held _ => 1
def uptoBulkAll {H : Type} : List (DataW H) → Nat
  | [] => 0
  | d :: r => uptoBulk d + uptoBulkAll r
def uptoBulkEntries {H : Type} : List (Lit × DataW H) → Nat
  | [] => 0
  | x :: r => uptoBulkEntry x + uptoBulkEntries r
def uptoBulkEntry {H : Type} : Lit × DataW H → Nat
  | (.string bytes, d) => bytes.length + uptoBulk d + 1
  | (_, d) => uptoBulk d + 1
 end
def uptoSmall : (H : Type) → List (DataW H) → Bool := fun _ ds => decide (uptoBulkAll ds ≤ 1048576)
def OpenSpec.upto (s : _root_.Go.ChangeSpec) : _root_.Go.OpenSpec := { _root_.Go.OpenSpec.ofChange s with cond := some uptoSmall }

/-- 'laws.FnHoursValid', WHERE WHAT IT READS IS OF BULK AT MOST 1048576: true; the input reads as it did. -/
def fnHoursValidUptoRow : OpenClaim := { program := "ytfgaggdiepielab", sum := "f0fdcccab8a45ff371367ec1a156659608dbae4138fc1998074daf1198c7d7d2", func := "loop.example/sundials/laws.FnHoursValid", spec := "fnHoursValid", unfollowed := true, recurses := true, apart := false, narrowed := true }
def FnHoursValidUptoSaid : Prop := fnHoursValidUptoRow.holds Try.pinned (OpenSpec.upto fnHoursValidSpec)

/-- 'laws.FnStoreRun', WHERE WHAT IT READS IS OF BULK AT MOST 1048576: true; the input reads as it did. -/
def fnStoreRunUptoRow : OpenClaim := { program := "ytfgaggdiepielab", sum := "f0fdcccab8a45ff371367ec1a156659608dbae4138fc1998074daf1198c7d7d2", func := "loop.example/sundials/laws.FnStoreRun", spec := "fnStoreRun", unfollowed := true, recurses := true, apart := false, narrowed := true }
def FnStoreRunUptoSaid : Prop := fnStoreRunUptoRow.holds Try.pinned (OpenSpec.upto fnStoreRunSpec)

/-- 'laws.FnStoreLack', WHERE WHAT IT READS IS OF BULK AT MOST 1048576: true; the input reads as it did. -/
def fnStoreLackUptoRow : OpenClaim := { program := "ytfgaggdiepielab", sum := "f0fdcccab8a45ff371367ec1a156659608dbae4138fc1998074daf1198c7d7d2", func := "loop.example/sundials/laws.FnStoreLack", spec := "fnStoreLack", unfollowed := true, recurses := true, apart := false, narrowed := true }
def FnStoreLackUptoSaid : Prop := fnStoreLackUptoRow.holds Try.pinned (OpenSpec.upto fnStoreLackSpec)

/-- 'laws.FnStoreLost', WHERE WHAT IT READS IS OF BULK AT MOST 1048576: true; the input reads as it did. -/
def fnStoreLostUptoRow : OpenClaim := { program := "ytfgaggdiepielab", sum := "f0fdcccab8a45ff371367ec1a156659608dbae4138fc1998074daf1198c7d7d2", func := "loop.example/sundials/laws.FnStoreLost", spec := "fnStoreLost", unfollowed := true, recurses := true, apart := false, narrowed := true }
def FnStoreLostUptoSaid : Prop := fnStoreLostUptoRow.holds Try.pinned (OpenSpec.upto fnStoreLostSpec)

/-- 'laws.FnStoreFor', WHERE WHAT IT READS IS OF BULK AT MOST 1048576: true; the input reads as it did. -/
def fnStoreForUptoRow : OpenClaim := { program := "ytfgaggdiepielab", sum := "f0fdcccab8a45ff371367ec1a156659608dbae4138fc1998074daf1198c7d7d2", func := "loop.example/sundials/laws.FnStoreFor", spec := "fnStoreFor", unfollowed := true, recurses := true, apart := false, narrowed := true }
def FnStoreForUptoSaid : Prop := fnStoreForUptoRow.holds Try.pinned (OpenSpec.upto fnStoreForSpec)

/-- 'laws.FnStoreGap', WHERE WHAT IT READS IS OF BULK AT MOST 1048576: true; the input reads as it did. -/
def fnStoreGapUptoRow : OpenClaim := { program := "ytfgaggdiepielab", sum := "f0fdcccab8a45ff371367ec1a156659608dbae4138fc1998074daf1198c7d7d2", func := "loop.example/sundials/laws.FnStoreGap", spec := "fnStoreGap", unfollowed := true, recurses := true, apart := false, narrowed := true }
def FnStoreGapUptoSaid : Prop := fnStoreGapUptoRow.holds Try.pinned (OpenSpec.upto fnStoreGapSpec)

/-- 'laws.FnLoadsValid', WHERE WHAT IT READS IS OF BULK AT MOST 1048576: true; the input reads as it did. -/
def fnLoadsValidUptoRow : OpenClaim := { program := "ytfgaggdiepielab", sum := "f0fdcccab8a45ff371367ec1a156659608dbae4138fc1998074daf1198c7d7d2", func := "loop.example/sundials/laws.FnLoadsValid", spec := "fnLoadsValid", unfollowed := true, recurses := true, apart := false, narrowed := true }
def FnLoadsValidUptoSaid : Prop := fnLoadsValidUptoRow.holds Try.pinned (OpenSpec.upto fnLoadsValidSpec)

/-- 'laws.FnLoadsBound', WHERE WHAT IT READS IS OF BULK AT MOST 1048576: true; the input reads as it did. -/
def fnLoadsBoundUptoRow : OpenClaim := { program := "ytfgaggdiepielab", sum := "f0fdcccab8a45ff371367ec1a156659608dbae4138fc1998074daf1198c7d7d2", func := "loop.example/sundials/laws.FnLoadsBound", spec := "fnLoadsBound", unfollowed := true, recurses := true, apart := false, narrowed := true }
def FnLoadsBoundUptoSaid : Prop := fnLoadsBoundUptoRow.holds Try.pinned (OpenSpec.upto fnLoadsBoundSpec)

end Rows
end Go.Proofs.Ytfgaggdiepielab
