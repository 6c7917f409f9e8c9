/-
  No cell of these rows narrows 'for every input' (looked for: loops, veiled, ifaces, maps, wideKeys, modest, calm, conditions, laid).
  DERIVED. THE GIVEN ROWS OF THIS SEAT. 8 by the template 'for every input the law returns true; each argument reads behind the call as it read before'; 0 by the template 'total and deterministic' (their statements: YtfjhnbpphbjpjabTotals.lean).
  GIVEN WITH THE SEED: the statements are not yours to turn. If you find one false, say at which input.
  Laid BY PROGRAM, IN A SANDBOX (cutbox-rows.mjs): the forced cells as the released guide's own fill.sh prints them over the translation b8505841f9a3f202… (all of the seat's roots in one cut). By AI agents, Wed Nov 11 2026. No macro, syntax, notation, axiom, sorry.
-/
import Derived.Test.YtfjhnbpphbjpjabChecked
import GoSem.Claim
import GoSem.ClaimJoined
import GoSem.ClaimMapViews
import Derived.JoinedTies
import Derived.KernelRfl
namespace Go.Proofs.Ytfjhnbpphbjpjab
/- THE CELL 'sum', in the pinned program and in every row, IS THE sha256 OF THE DUMP (.gsa) THAT YtfjhnbpphbjpjabProg.lean LOADS. Nothing in Lean hashes anything: it is a label: what it is worth is what the hold of that sum in a sandbox is worth. -/
noncomputable def Try.pinned : Pinned := { name := "ytfjhnbpphbjpjab", sum := "b8505841f9a3f20293a03fc796392012ecfb294e38e67bfe806e7245949937a2", checked := Try.checked }
namespace Rows
def none {H : Type} : Left H := { results := [], args := [] }

/-- 'laws.FnExactStoreRun': WHATEVER THE INPUT: true; the input reads as it did. -/
def fnExactStoreRunSpec : ChangeSpec := { name := "fnExactStoreRun", fn := fun _ => fun
  | [d1, d2, d3] => { results := [.lit (.bool true)], args := [d1, d2, d3] }
  | _ => none }
def fnExactStoreRunRow : OpenClaim := { program := "ytfjhnbpphbjpjab", sum := "b8505841f9a3f20293a03fc796392012ecfb294e38e67bfe806e7245949937a2", func := "loop.example/sundials/laws.FnExactStoreRun", spec := "fnExactStoreRun", unfollowed := true, recurses := true, apart := false }
def FnExactStoreRunSaid : Prop := fnExactStoreRunRow.holds Try.pinned (OpenSpec.ofChange fnExactStoreRunSpec)

/-- ITS FALSE NEIGHBOUR: 'it returns false'. Refute it at one input. -/
def fnExactStoreRunWrong : ChangeSpec := { name := "fnExactStoreRun", fn := fun _ => fun
  | [d1, d2, d3] => { results := [.lit (.bool false)], args := [d1, d2, d3] }
  | _ => none }
def FnExactStoreRunWrongFalsely : Prop := fnExactStoreRunRow.holds Try.pinned (OpenSpec.ofChange fnExactStoreRunWrong)

/-- 'laws.FnExactStoreLack': WHATEVER THE INPUT: true; the input reads as it did. -/
def fnExactStoreLackSpec : ChangeSpec := { name := "fnExactStoreLack", fn := fun _ => fun
  | [d1, d2, d3] => { results := [.lit (.bool true)], args := [d1, d2, d3] }
  | _ => none }
def fnExactStoreLackRow : OpenClaim := { program := "ytfjhnbpphbjpjab", sum := "b8505841f9a3f20293a03fc796392012ecfb294e38e67bfe806e7245949937a2", func := "loop.example/sundials/laws.FnExactStoreLack", spec := "fnExactStoreLack", unfollowed := true, recurses := true, apart := false }
def FnExactStoreLackSaid : Prop := fnExactStoreLackRow.holds Try.pinned (OpenSpec.ofChange fnExactStoreLackSpec)

/-- ITS FALSE NEIGHBOUR: 'it returns false'. Refute it at one input. -/
def fnExactStoreLackWrong : ChangeSpec := { name := "fnExactStoreLack", fn := fun _ => fun
  | [d1, d2, d3] => { results := [.lit (.bool false)], args := [d1, d2, d3] }
  | _ => none }
def FnExactStoreLackWrongFalsely : Prop := fnExactStoreLackRow.holds Try.pinned (OpenSpec.ofChange fnExactStoreLackWrong)

/-- 'laws.FnExactStoreLost': WHATEVER THE INPUT: true; the input reads as it did. -/
def fnExactStoreLostSpec : ChangeSpec := { name := "fnExactStoreLost", fn := fun _ => fun
  | [d1, d2, d3] => { results := [.lit (.bool true)], args := [d1, d2, d3] }
  | _ => none }
def fnExactStoreLostRow : OpenClaim := { program := "ytfjhnbpphbjpjab", sum := "b8505841f9a3f20293a03fc796392012ecfb294e38e67bfe806e7245949937a2", func := "loop.example/sundials/laws.FnExactStoreLost", spec := "fnExactStoreLost", unfollowed := true, recurses := true, apart := false }
def FnExactStoreLostSaid : Prop := fnExactStoreLostRow.holds Try.pinned (OpenSpec.ofChange fnExactStoreLostSpec)

/-- ITS FALSE NEIGHBOUR: 'it returns false'. Refute it at one input. -/
def fnExactStoreLostWrong : ChangeSpec := { name := "fnExactStoreLost", fn := fun _ => fun
  | [d1, d2, d3] => { results := [.lit (.bool false)], args := [d1, d2, d3] }
  | _ => none }
def FnExactStoreLostWrongFalsely : Prop := fnExactStoreLostRow.holds Try.pinned (OpenSpec.ofChange fnExactStoreLostWrong)

/-- 'laws.FnExactStoreFor': WHATEVER THE INPUT: true; the input reads as it did. -/
def fnExactStoreForSpec : ChangeSpec := { name := "fnExactStoreFor", fn := fun _ => fun
  | [d] => { results := [.lit (.bool true)], args := [d] }
  | _ => none }
def fnExactStoreForRow : OpenClaim := { program := "ytfjhnbpphbjpjab", sum := "b8505841f9a3f20293a03fc796392012ecfb294e38e67bfe806e7245949937a2", func := "loop.example/sundials/laws.FnExactStoreFor", spec := "fnExactStoreFor", unfollowed := true, recurses := true, apart := false }
def FnExactStoreForSaid : Prop := fnExactStoreForRow.holds Try.pinned (OpenSpec.ofChange fnExactStoreForSpec)

/-- ITS FALSE NEIGHBOUR: 'it returns false'. Refute it at one input. -/
def fnExactStoreForWrong : ChangeSpec := { name := "fnExactStoreFor", fn := fun _ => fun
  | [d] => { results := [.lit (.bool false)], args := [d] }
  | _ => none }
def FnExactStoreForWrongFalsely : Prop := fnExactStoreForRow.holds Try.pinned (OpenSpec.ofChange fnExactStoreForWrong)

/-- 'laws.FnExactStoreGap': WHATEVER THE INPUT: true; the input reads as it did. -/
def fnExactStoreGapSpec : ChangeSpec := { name := "fnExactStoreGap", fn := fun _ => fun
  | [d] => { results := [.lit (.bool true)], args := [d] }
  | _ => none }
def fnExactStoreGapRow : OpenClaim := { program := "ytfjhnbpphbjpjab", sum := "b8505841f9a3f20293a03fc796392012ecfb294e38e67bfe806e7245949937a2", func := "loop.example/sundials/laws.FnExactStoreGap", spec := "fnExactStoreGap", unfollowed := true, recurses := true, apart := false }
def FnExactStoreGapSaid : Prop := fnExactStoreGapRow.holds Try.pinned (OpenSpec.ofChange fnExactStoreGapSpec)

/-- ITS FALSE NEIGHBOUR: 'it returns false'. Refute it at one input. -/
def fnExactStoreGapWrong : ChangeSpec := { name := "fnExactStoreGap", fn := fun _ => fun
  | [d] => { results := [.lit (.bool false)], args := [d] }
  | _ => none }
def FnExactStoreGapWrongFalsely : Prop := fnExactStoreGapRow.holds Try.pinned (OpenSpec.ofChange fnExactStoreGapWrong)

/-- 'laws.FnExactLoadsValid': WHATEVER THE INPUT: true; the input reads as it did. -/
def fnExactLoadsValidSpec : ChangeSpec := { name := "fnExactLoadsValid", fn := fun _ => fun
  | [d] => { results := [.lit (.bool true)], args := [d] }
  | _ => none }
def fnExactLoadsValidRow : OpenClaim := { program := "ytfjhnbpphbjpjab", sum := "b8505841f9a3f20293a03fc796392012ecfb294e38e67bfe806e7245949937a2", func := "loop.example/sundials/laws.FnExactLoadsValid", spec := "fnExactLoadsValid", unfollowed := true, recurses := true, apart := false }
def FnExactLoadsValidSaid : Prop := fnExactLoadsValidRow.holds Try.pinned (OpenSpec.ofChange fnExactLoadsValidSpec)

/-- ITS FALSE NEIGHBOUR: 'it returns false'. Refute it at one input. -/
def fnExactLoadsValidWrong : ChangeSpec := { name := "fnExactLoadsValid", fn := fun _ => fun
  | [d] => { results := [.lit (.bool false)], args := [d] }
  | _ => none }
def FnExactLoadsValidWrongFalsely : Prop := fnExactLoadsValidRow.holds Try.pinned (OpenSpec.ofChange fnExactLoadsValidWrong)

/-- 'laws.FnExactLoadsPeak': WHATEVER THE INPUT: true; the input reads as it did. -/
def fnExactLoadsPeakSpec : ChangeSpec := { name := "fnExactLoadsPeak", fn := fun _ => fun
  | [d1, d2] => { results := [.lit (.bool true)], args := [d1, d2] }
  | _ => none }
def fnExactLoadsPeakRow : OpenClaim := { program := "ytfjhnbpphbjpjab", sum := "b8505841f9a3f20293a03fc796392012ecfb294e38e67bfe806e7245949937a2", func := "loop.example/sundials/laws.FnExactLoadsPeak", spec := "fnExactLoadsPeak", unfollowed := true, recurses := true, apart := false }
def FnExactLoadsPeakSaid : Prop := fnExactLoadsPeakRow.holds Try.pinned (OpenSpec.ofChange fnExactLoadsPeakSpec)

/-- ITS FALSE NEIGHBOUR: 'it returns false'. Refute it at one input. -/
def fnExactLoadsPeakWrong : ChangeSpec := { name := "fnExactLoadsPeak", fn := fun _ => fun
  | [d1, d2] => { results := [.lit (.bool false)], args := [d1, d2] }
  | _ => none }
def FnExactLoadsPeakWrongFalsely : Prop := fnExactLoadsPeakRow.holds Try.pinned (OpenSpec.ofChange fnExactLoadsPeakWrong)

/-- 'laws.FnExactLoadsBound': WHATEVER THE INPUT: true; the input reads as it did. -/
def fnExactLoadsBoundSpec : ChangeSpec := { name := "fnExactLoadsBound", fn := fun _ => fun
  | [d] => { results := [.lit (.bool true)], args := [d] }
  | _ => none }
def fnExactLoadsBoundRow : OpenClaim := { program := "ytfjhnbpphbjpjab", sum := "b8505841f9a3f20293a03fc796392012ecfb294e38e67bfe806e7245949937a2", func := "loop.example/sundials/laws.FnExactLoadsBound", spec := "fnExactLoadsBound", unfollowed := true, recurses := true, apart := false }
def FnExactLoadsBoundSaid : Prop := fnExactLoadsBoundRow.holds Try.pinned (OpenSpec.ofChange fnExactLoadsBoundSpec)

/-- ITS FALSE NEIGHBOUR: 'it returns false'. Refute it at one input. -/
def fnExactLoadsBoundWrong : ChangeSpec := { name := "fnExactLoadsBound", fn := fun _ => fun
  | [d] => { results := [.lit (.bool false)], args := [d] }
  | _ => none }
def FnExactLoadsBoundWrongFalsely : Prop := fnExactLoadsBoundRow.holds Try.pinned (OpenSpec.ofChange fnExactLoadsBoundWrong)

/- THE SECOND FORM. 'bulk': how many values and letters a reading holds, each counted each time it is reached (what is shared counts as often as it is met; a slice's spare places count too). A statement '..UptoSaid' is the law's where the arguments, and the package variables that the reading takes, are together of bulk at most 1048576: NARROWER than '..Said'. Prove '..Said' where nothing that the law and all that it calls make is longer than what came in: it says more and counts as full. Else prove '..UptoSaid'. A law counts once. -/
mutual
def uptoBulk {H : Type} : DataW H → Nat
  | .lit (.string bytes) => bytes.length + 1
  | .lit _ => 1
  | .nil => 1
  | .ptr d => uptoBulk d + 1
  | .slice elems spare => uptoBulkAll elems + uptoBulkAll spare + 1
  | .agg parts => uptoBulkAll parts + 1
  | .iface _ d => uptoBulk d + 1
  | .map entries => uptoBulkEntries entries + 1
  | .held _ => 1
def uptoBulkAll {H : Type} : List (DataW H) → Nat
  | [] => 0
  | d :: r => uptoBulk d + uptoBulkAll r
def uptoBulkEntries {H : Type} : List (Lit × DataW H) → Nat
  | [] => 0
  | x :: r => uptoBulkEntry x + uptoBulkEntries r
def uptoBulkEntry {H : Type} : Lit × DataW H → Nat
  | (.string bytes, d) => bytes.length + uptoBulk d + 1
  | (_, d) => uptoBulk d + 1
 end
def uptoSmall : (H : Type) → List (DataW H) → Bool := fun _ ds => decide (uptoBulkAll ds ≤ 1048576)
def OpenSpec.upto (s : _root_.Go.ChangeSpec) : _root_.Go.OpenSpec := { _root_.Go.OpenSpec.ofChange s with cond := some uptoSmall }

/-- 'laws.FnExactStoreRun', WHERE WHAT IT READS IS OF BULK AT MOST 1048576: true; the input reads as it did. -/
def fnExactStoreRunUptoRow : OpenClaim := { program := "ytfjhnbpphbjpjab", sum := "b8505841f9a3f20293a03fc796392012ecfb294e38e67bfe806e7245949937a2", func := "loop.example/sundials/laws.FnExactStoreRun", spec := "fnExactStoreRun", unfollowed := true, recurses := true, apart := false, narrowed := true }
def FnExactStoreRunUptoSaid : Prop := fnExactStoreRunUptoRow.holds Try.pinned (OpenSpec.upto fnExactStoreRunSpec)

/-- 'laws.FnExactStoreLack', WHERE WHAT IT READS IS OF BULK AT MOST 1048576: true; the input reads as it did. -/
def fnExactStoreLackUptoRow : OpenClaim := { program := "ytfjhnbpphbjpjab", sum := "b8505841f9a3f20293a03fc796392012ecfb294e38e67bfe806e7245949937a2", func := "loop.example/sundials/laws.FnExactStoreLack", spec := "fnExactStoreLack", unfollowed := true, recurses := true, apart := false, narrowed := true }
def FnExactStoreLackUptoSaid : Prop := fnExactStoreLackUptoRow.holds Try.pinned (OpenSpec.upto fnExactStoreLackSpec)

/-- 'laws.FnExactStoreLost', WHERE WHAT IT READS IS OF BULK AT MOST 1048576: true; the input reads as it did. -/
def fnExactStoreLostUptoRow : OpenClaim := { program := "ytfjhnbpphbjpjab", sum := "b8505841f9a3f20293a03fc796392012ecfb294e38e67bfe806e7245949937a2", func := "loop.example/sundials/laws.FnExactStoreLost", spec := "fnExactStoreLost", unfollowed := true, recurses := true, apart := false, narrowed := true }
def FnExactStoreLostUptoSaid : Prop := fnExactStoreLostUptoRow.holds Try.pinned (OpenSpec.upto fnExactStoreLostSpec)

/-- 'laws.FnExactStoreFor', WHERE WHAT IT READS IS OF BULK AT MOST 1048576: true; the input reads as it did. -/
def fnExactStoreForUptoRow : OpenClaim := { program := "ytfjhnbpphbjpjab", sum := "b8505841f9a3f20293a03fc796392012ecfb294e38e67bfe806e7245949937a2", func := "loop.example/sundials/laws.FnExactStoreFor", spec := "fnExactStoreFor", unfollowed := true, recurses := true, apart := false, narrowed := true }
def FnExactStoreForUptoSaid : Prop := fnExactStoreForUptoRow.holds Try.pinned (OpenSpec.upto fnExactStoreForSpec)

/-- 'laws.FnExactStoreGap', WHERE WHAT IT READS IS OF BULK AT MOST 1048576: true; the input reads as it did. -/
def fnExactStoreGapUptoRow : OpenClaim := { program := "ytfjhnbpphbjpjab", sum := "b8505841f9a3f20293a03fc796392012ecfb294e38e67bfe806e7245949937a2", func := "loop.example/sundials/laws.FnExactStoreGap", spec := "fnExactStoreGap", unfollowed := true, recurses := true, apart := false, narrowed := true }
def FnExactStoreGapUptoSaid : Prop := fnExactStoreGapUptoRow.holds Try.pinned (OpenSpec.upto fnExactStoreGapSpec)

/-- 'laws.FnExactLoadsValid', WHERE WHAT IT READS IS OF BULK AT MOST 1048576: true; the input reads as it did. -/
def fnExactLoadsValidUptoRow : OpenClaim := { program := "ytfjhnbpphbjpjab", sum := "b8505841f9a3f20293a03fc796392012ecfb294e38e67bfe806e7245949937a2", func := "loop.example/sundials/laws.FnExactLoadsValid", spec := "fnExactLoadsValid", unfollowed := true, recurses := true, apart := false, narrowed := true }
def FnExactLoadsValidUptoSaid : Prop := fnExactLoadsValidUptoRow.holds Try.pinned (OpenSpec.upto fnExactLoadsValidSpec)

/-- 'laws.FnExactLoadsPeak', WHERE WHAT IT READS IS OF BULK AT MOST 1048576: true; the input reads as it did. -/
def fnExactLoadsPeakUptoRow : OpenClaim := { program := "ytfjhnbpphbjpjab", sum := "b8505841f9a3f20293a03fc796392012ecfb294e38e67bfe806e7245949937a2", func := "loop.example/sundials/laws.FnExactLoadsPeak", spec := "fnExactLoadsPeak", unfollowed := true, recurses := true, apart := false, narrowed := true }
def FnExactLoadsPeakUptoSaid : Prop := fnExactLoadsPeakUptoRow.holds Try.pinned (OpenSpec.upto fnExactLoadsPeakSpec)

/-- 'laws.FnExactLoadsBound', WHERE WHAT IT READS IS OF BULK AT MOST 1048576: true; the input reads as it did. -/
def fnExactLoadsBoundUptoRow : OpenClaim := { program := "ytfjhnbpphbjpjab", sum := "b8505841f9a3f20293a03fc796392012ecfb294e38e67bfe806e7245949937a2", func := "loop.example/sundials/laws.FnExactLoadsBound", spec := "fnExactLoadsBound", unfollowed := true, recurses := true, apart := false, narrowed := true }
def FnExactLoadsBoundUptoSaid : Prop := fnExactLoadsBoundUptoRow.holds Try.pinned (OpenSpec.upto fnExactLoadsBoundSpec)

end Rows
end Go.Proofs.Ytfjhnbpphbjpjab
