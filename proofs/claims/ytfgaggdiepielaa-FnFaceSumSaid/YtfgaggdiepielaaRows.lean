/-
  No cell of these rows narrows 'for every input' (looked for: loops, veiled, ifaces, maps, wideKeys, modest, calm, conditions, laid).
  DERIVED. THE GIVEN ROWS OF THIS SEAT. 8 by the template 'for every input the law returns true; each argument reads behind the call as it read before'; 0 by the template 'total and deterministic' (their statements: YtfgaggdiepielaaTotals.lean).
  GIVEN WITH THE SEED: the statements are not yours to turn. If you find one false, say at which input.
  Laid BY PROGRAM, IN A SANDBOX (cutbox-rows.mjs): the forced cells as the released guide's own fill.sh prints them over the translation 8f963be25e9e46f1… (all of the seat's roots in one cut). By AI agents, Wed Nov 11 2026. No macro, syntax, notation, axiom, sorry.
-/
import Derived.Test.YtfgaggdiepielaaChecked
import GoSem.Claim
import GoSem.ClaimJoined
import GoSem.ClaimMapViews
import Derived.JoinedTies
import Derived.KernelRfl
namespace Go.Proofs.Ytfgaggdiepielaa
/- THE CELL 'sum', in the pinned program and in every row, IS THE sha256 OF THE DUMP (.gsa) THAT YtfgaggdiepielaaProg.lean LOADS. Nothing in Lean hashes anything: it is a label: what it is worth is what the hold of that sum in a sandbox is worth. -/
noncomputable def Try.pinned : Pinned := { name := "ytfgaggdiepielaa", sum := "8f963be25e9e46f1958095d4412a11a9a7d7577278b0c2404ba22a85fc1589c4", checked := Try.checked }
namespace Rows
def none {H : Type} : Left H := { results := [], args := [] }

/-- 'laws.FnFaceValid': WHATEVER THE INPUT: true; the input reads as it did. -/
def fnFaceValidSpec : ChangeSpec := { name := "fnFaceValid", fn := fun _ => fun
  | [d] => { results := [.lit (.bool true)], args := [d] }
  | _ => none }
def fnFaceValidRow : OpenClaim := { program := "ytfgaggdiepielaa", sum := "8f963be25e9e46f1958095d4412a11a9a7d7577278b0c2404ba22a85fc1589c4", func := "loop.example/sundials/laws.FnFaceValid", spec := "fnFaceValid", apart := false }
def FnFaceValidSaid : Prop := fnFaceValidRow.holds Try.pinned (OpenSpec.ofChange fnFaceValidSpec)

/-- ITS FALSE NEIGHBOUR: 'it returns false'. Refute it at one input. -/
def fnFaceValidWrong : ChangeSpec := { name := "fnFaceValid", fn := fun _ => fun
  | [d] => { results := [.lit (.bool false)], args := [d] }
  | _ => none }
def FnFaceValidWrongFalsely : Prop := fnFaceValidRow.holds Try.pinned (OpenSpec.ofChange fnFaceValidWrong)

/-- 'laws.FnFaceGain': WHATEVER THE INPUT: true; the input reads as it did. -/
def fnFaceGainSpec : ChangeSpec := { name := "fnFaceGain", fn := fun _ => fun
  | [d] => { results := [.lit (.bool true)], args := [d] }
  | _ => none }
def fnFaceGainRow : OpenClaim := { program := "ytfgaggdiepielaa", sum := "8f963be25e9e46f1958095d4412a11a9a7d7577278b0c2404ba22a85fc1589c4", func := "loop.example/sundials/laws.FnFaceGain", spec := "fnFaceGain", apart := false }
def FnFaceGainSaid : Prop := fnFaceGainRow.holds Try.pinned (OpenSpec.ofChange fnFaceGainSpec)

/-- ITS FALSE NEIGHBOUR: 'it returns false'. Refute it at one input. -/
def fnFaceGainWrong : ChangeSpec := { name := "fnFaceGain", fn := fun _ => fun
  | [d] => { results := [.lit (.bool false)], args := [d] }
  | _ => none }
def FnFaceGainWrongFalsely : Prop := fnFaceGainRow.holds Try.pinned (OpenSpec.ofChange fnFaceGainWrong)

/-- 'laws.FnFaceSum': WHATEVER THE INPUT: true; the input reads as it did. -/
def fnFaceSumSpec : ChangeSpec := { name := "fnFaceSum", fn := fun _ => fun
  | [d] => { results := [.lit (.bool true)], args := [d] }
  | _ => none }
def fnFaceSumRow : OpenClaim := { program := "ytfgaggdiepielaa", sum := "8f963be25e9e46f1958095d4412a11a9a7d7577278b0c2404ba22a85fc1589c4", func := "loop.example/sundials/laws.FnFaceSum", spec := "fnFaceSum", unfollowed := true, recurses := true, apart := false }
def FnFaceSumSaid : Prop := fnFaceSumRow.holds Try.pinned (OpenSpec.ofChange fnFaceSumSpec)

/-- ITS FALSE NEIGHBOUR: 'it returns false'. Refute it at one input. -/
def fnFaceSumWrong : ChangeSpec := { name := "fnFaceSum", fn := fun _ => fun
  | [d] => { results := [.lit (.bool false)], args := [d] }
  | _ => none }
def FnFaceSumWrongFalsely : Prop := fnFaceSumRow.holds Try.pinned (OpenSpec.ofChange fnFaceSumWrong)

/-- 'laws.FnRowValid': WHATEVER THE INPUT: true; the input reads as it did. -/
def fnRowValidSpec : ChangeSpec := { name := "fnRowValid", fn := fun _ => fun
  | [d] => { results := [.lit (.bool true)], args := [d] }
  | _ => none }
def fnRowValidRow : OpenClaim := { program := "ytfgaggdiepielaa", sum := "8f963be25e9e46f1958095d4412a11a9a7d7577278b0c2404ba22a85fc1589c4", func := "loop.example/sundials/laws.FnRowValid", spec := "fnRowValid", unfollowed := true, recurses := true, apart := false }
def FnRowValidSaid : Prop := fnRowValidRow.holds Try.pinned (OpenSpec.ofChange fnRowValidSpec)

/-- ITS FALSE NEIGHBOUR: 'it returns false'. Refute it at one input. -/
def fnRowValidWrong : ChangeSpec := { name := "fnRowValid", fn := fun _ => fun
  | [d] => { results := [.lit (.bool false)], args := [d] }
  | _ => none }
def FnRowValidWrongFalsely : Prop := fnRowValidRow.holds Try.pinned (OpenSpec.ofChange fnRowValidWrong)

/-- 'laws.FnRowOk': WHATEVER THE INPUT: true; the input reads as it did. -/
def fnRowOkSpec : ChangeSpec := { name := "fnRowOk", fn := fun _ => fun
  | [d] => { results := [.lit (.bool true)], args := [d] }
  | _ => none }
def fnRowOkRow : OpenClaim := { program := "ytfgaggdiepielaa", sum := "8f963be25e9e46f1958095d4412a11a9a7d7577278b0c2404ba22a85fc1589c4", func := "loop.example/sundials/laws.FnRowOk", spec := "fnRowOk", unfollowed := true, recurses := true, apart := false }
def FnRowOkSaid : Prop := fnRowOkRow.holds Try.pinned (OpenSpec.ofChange fnRowOkSpec)

/-- ITS FALSE NEIGHBOUR: 'it returns false'. Refute it at one input. -/
def fnRowOkWrong : ChangeSpec := { name := "fnRowOk", fn := fun _ => fun
  | [d] => { results := [.lit (.bool false)], args := [d] }
  | _ => none }
def FnRowOkWrongFalsely : Prop := fnRowOkRow.holds Try.pinned (OpenSpec.ofChange fnRowOkWrong)

/-- 'laws.FnRowSum': WHATEVER THE INPUT: true; the input reads as it did. -/
def fnRowSumSpec : ChangeSpec := { name := "fnRowSum", fn := fun _ => fun
  | [d] => { results := [.lit (.bool true)], args := [d] }
  | _ => none }
def fnRowSumRow : OpenClaim := { program := "ytfgaggdiepielaa", sum := "8f963be25e9e46f1958095d4412a11a9a7d7577278b0c2404ba22a85fc1589c4", func := "loop.example/sundials/laws.FnRowSum", spec := "fnRowSum", unfollowed := true, recurses := true, apart := false }
def FnRowSumSaid : Prop := fnRowSumRow.holds Try.pinned (OpenSpec.ofChange fnRowSumSpec)

/-- ITS FALSE NEIGHBOUR: 'it returns false'. Refute it at one input. -/
def fnRowSumWrong : ChangeSpec := { name := "fnRowSum", fn := fun _ => fun
  | [d] => { results := [.lit (.bool false)], args := [d] }
  | _ => none }
def FnRowSumWrongFalsely : Prop := fnRowSumRow.holds Try.pinned (OpenSpec.ofChange fnRowSumWrong)

/-- 'laws.FnRowMost': WHATEVER THE INPUT: true; the input reads as it did. -/
def fnRowMostSpec : ChangeSpec := { name := "fnRowMost", fn := fun _ => fun
  | [d] => { results := [.lit (.bool true)], args := [d] }
  | _ => none }
def fnRowMostRow : OpenClaim := { program := "ytfgaggdiepielaa", sum := "8f963be25e9e46f1958095d4412a11a9a7d7577278b0c2404ba22a85fc1589c4", func := "loop.example/sundials/laws.FnRowMost", spec := "fnRowMost", unfollowed := true, recurses := true, apart := false }
def FnRowMostSaid : Prop := fnRowMostRow.holds Try.pinned (OpenSpec.ofChange fnRowMostSpec)

/-- ITS FALSE NEIGHBOUR: 'it returns false'. Refute it at one input. -/
def fnRowMostWrong : ChangeSpec := { name := "fnRowMost", fn := fun _ => fun
  | [d] => { results := [.lit (.bool false)], args := [d] }
  | _ => none }
def FnRowMostWrongFalsely : Prop := fnRowMostRow.holds Try.pinned (OpenSpec.ofChange fnRowMostWrong)

/-- 'laws.FnRowBest': WHATEVER THE INPUT: true; the input reads as it did. -/
def fnRowBestSpec : ChangeSpec := { name := "fnRowBest", fn := fun _ => fun
  | [d] => { results := [.lit (.bool true)], args := [d] }
  | _ => none }
def fnRowBestRow : OpenClaim := { program := "ytfgaggdiepielaa", sum := "8f963be25e9e46f1958095d4412a11a9a7d7577278b0c2404ba22a85fc1589c4", func := "loop.example/sundials/laws.FnRowBest", spec := "fnRowBest", unfollowed := true, recurses := true, apart := false }
def FnRowBestSaid : Prop := fnRowBestRow.holds Try.pinned (OpenSpec.ofChange fnRowBestSpec)

/-- ITS FALSE NEIGHBOUR: 'it returns false'. Refute it at one input. -/
def fnRowBestWrong : ChangeSpec := { name := "fnRowBest", fn := fun _ => fun
  | [d] => { results := [.lit (.bool false)], args := [d] }
  | _ => none }
def FnRowBestWrongFalsely : Prop := fnRowBestRow.holds Try.pinned (OpenSpec.ofChange fnRowBestWrong)

/- THE SECOND FORM. 'bulk': how many values and letters a reading holds, each counted each time it is reached (what is shared counts as often as it is met; a slice's spare places count too). A statement '..UptoSaid' is the law's where the arguments, and the package variables that the reading takes, are together of bulk at most 1048576: NARROWER than '..Said'. Prove '..Said' where nothing that the law and all that it calls make is longer than what came in: it says more and counts as full. Else prove '..UptoSaid'. A law counts once. -/
mutual
def uptoBulk {H : Type} : DataW H → Nat
  | .lit (.string bytes) => bytes.length + 1
  | .lit _ => 1
  | .nil => 1
  | .ptr d => uptoBulk d + 1
  | .slice elems spare => uptoBulkAll elems + uptoBulkAll spare + 1
  | .agg parts => uptoBulkAll parts + 1
  | .iface _ d => uptoBulk d + 1
  | .map entries => uptoBulkEntries entries + 1
  | .held _ => 1
def uptoBulkAll {H : Type} : List (DataW H) → Nat
  | [] => 0
  | d :: r => uptoBulk d + uptoBulkAll r
def uptoBulkEntries {H : Type} : List (Lit × DataW H) → Nat
  | [] => 0
  | x :: r => uptoBulkEntry x + uptoBulkEntries r
def uptoBulkEntry {H : Type} : Lit × DataW H → Nat
  | (.string bytes, d) => bytes.length + uptoBulk d + 1
  | (_, d) => uptoBulk d + 1
 end
def uptoSmall : (H : Type) → List (DataW H) → Bool := fun _ ds => decide (uptoBulkAll ds ≤ 1048576)
def OpenSpec.upto (s : _root_.Go.ChangeSpec) : _root_.Go.OpenSpec := { _root_.Go.OpenSpec.ofChange s with cond := some uptoSmall }

/-- 'laws.FnFaceValid', WHERE WHAT IT READS IS OF BULK AT MOST 1048576: true; the input reads as it did. -/
def fnFaceValidUptoRow : OpenClaim := { program := "ytfgaggdiepielaa", sum := "8f963be25e9e46f1958095d4412a11a9a7d7577278b0c2404ba22a85fc1589c4", func := "loop.example/sundials/laws.FnFaceValid", spec := "fnFaceValid", apart := false, narrowed := true }
def FnFaceValidUptoSaid : Prop := fnFaceValidUptoRow.holds Try.pinned (OpenSpec.upto fnFaceValidSpec)

/-- 'laws.FnFaceGain', WHERE WHAT IT READS IS OF BULK AT MOST 1048576: true; the input reads as it did. -/
def fnFaceGainUptoRow : OpenClaim := { program := "ytfgaggdiepielaa", sum := "8f963be25e9e46f1958095d4412a11a9a7d7577278b0c2404ba22a85fc1589c4", func := "loop.example/sundials/laws.FnFaceGain", spec := "fnFaceGain", apart := false, narrowed := true }
def FnFaceGainUptoSaid : Prop := fnFaceGainUptoRow.holds Try.pinned (OpenSpec.upto fnFaceGainSpec)

/-- 'laws.FnFaceSum', WHERE WHAT IT READS IS OF BULK AT MOST 1048576: true; the input reads as it did. -/
def fnFaceSumUptoRow : OpenClaim := { program := "ytfgaggdiepielaa", sum := "8f963be25e9e46f1958095d4412a11a9a7d7577278b0c2404ba22a85fc1589c4", func := "loop.example/sundials/laws.FnFaceSum", spec := "fnFaceSum", unfollowed := true, recurses := true, apart := false, narrowed := true }
def FnFaceSumUptoSaid : Prop := fnFaceSumUptoRow.holds Try.pinned (OpenSpec.upto fnFaceSumSpec)

/-- 'laws.FnRowValid', WHERE WHAT IT READS IS OF BULK AT MOST 1048576: true; the input reads as it did. -/
def fnRowValidUptoRow : OpenClaim := { program := "ytfgaggdiepielaa", sum := "8f963be25e9e46f1958095d4412a11a9a7d7577278b0c2404ba22a85fc1589c4", func := "loop.example/sundials/laws.FnRowValid", spec := "fnRowValid", unfollowed := true, recurses := true, apart := false, narrowed := true }
def FnRowValidUptoSaid : Prop := fnRowValidUptoRow.holds Try.pinned (OpenSpec.upto fnRowValidSpec)

/-- 'laws.FnRowOk', WHERE WHAT IT READS IS OF BULK AT MOST 1048576: true; the input reads as it did. -/
def fnRowOkUptoRow : OpenClaim := { program := "ytfgaggdiepielaa", sum := "8f963be25e9e46f1958095d4412a11a9a7d7577278b0c2404ba22a85fc1589c4", func := "loop.example/sundials/laws.FnRowOk", spec := "fnRowOk", unfollowed := true, recurses := true, apart := false, narrowed := true }
def FnRowOkUptoSaid : Prop := fnRowOkUptoRow.holds Try.pinned (OpenSpec.upto fnRowOkSpec)

/-- 'laws.FnRowSum', WHERE WHAT IT READS IS OF BULK AT MOST 1048576: true; the input reads as it did. -/
def fnRowSumUptoRow : OpenClaim := { program := "ytfgaggdiepielaa", sum := "8f963be25e9e46f1958095d4412a11a9a7d7577278b0c2404ba22a85fc1589c4", func := "loop.example/sundials/laws.FnRowSum", spec := "fnRowSum", unfollowed := true, recurses := true, apart := false, narrowed := true }
def FnRowSumUptoSaid : Prop := fnRowSumUptoRow.holds Try.pinned (OpenSpec.upto fnRowSumSpec)

/-- 'laws.FnRowMost', WHERE WHAT IT READS IS OF BULK AT MOST 1048576: true; the input reads as it did. -/
def fnRowMostUptoRow : OpenClaim := { program := "ytfgaggdiepielaa", sum := "8f963be25e9e46f1958095d4412a11a9a7d7577278b0c2404ba22a85fc1589c4", func := "loop.example/sundials/laws.FnRowMost", spec := "fnRowMost", unfollowed := true, recurses := true, apart := false, narrowed := true }
def FnRowMostUptoSaid : Prop := fnRowMostUptoRow.holds Try.pinned (OpenSpec.upto fnRowMostSpec)

/-- 'laws.FnRowBest', WHERE WHAT IT READS IS OF BULK AT MOST 1048576: true; the input reads as it did. -/
def fnRowBestUptoRow : OpenClaim := { program := "ytfgaggdiepielaa", sum := "8f963be25e9e46f1958095d4412a11a9a7d7577278b0c2404ba22a85fc1589c4", func := "loop.example/sundials/laws.FnRowBest", spec := "fnRowBest", unfollowed := true, recurses := true, apart := false, narrowed := true }
def FnRowBestUptoSaid : Prop := fnRowBestUptoRow.holds Try.pinned (OpenSpec.upto fnRowBestSpec)

end Rows
end Go.Proofs.Ytfgaggdiepielaa
