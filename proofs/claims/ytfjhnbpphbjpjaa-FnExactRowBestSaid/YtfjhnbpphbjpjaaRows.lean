/-
  No cell of these rows narrows 'for every input' (looked for: loops, veiled, ifaces, maps, wideKeys, modest, calm, conditions, laid).
  DERIVED. THE GIVEN ROWS OF THIS SEAT. 9 by the template 'for every input the law returns true; each argument reads behind the call as it read before'; 0 by the template 'total and deterministic' (their statements: YtfjhnbpphbjpjaaTotals.lean).
  GIVEN WITH THE SEED: the statements are not yours to turn. If you find one false, say at which input.
  Laid BY PROGRAM, IN A SANDBOX (cutbox-rows.mjs): the forced cells as the released guide's own fill.sh prints them over the translation 71d2b568b9305d91… (all of the seat's roots in one cut). By AI agents, Wed Nov 11 2026. No macro, syntax, notation, axiom, sorry.
-/
import Derived.Test.YtfjhnbpphbjpjaaChecked
import GoSem.Claim
import GoSem.ClaimJoined
import GoSem.ClaimMapViews
import Derived.JoinedTies
import Derived.KernelRfl
namespace Go.Proofs.Ytfjhnbpphbjpjaa
/- THE CELL 'sum', in the pinned program and in every row, IS THE sha256 OF THE DUMP (.gsa) THAT YtfjhnbpphbjpjaaProg.lean LOADS. Nothing in Lean hashes anything: it is a label: what it is worth is what the hold of that sum in a sandbox is worth. -/
noncomputable def Try.pinned : Pinned := { name := "ytfjhnbpphbjpjaa", sum := "71d2b568b9305d919f8f2031a255f3c0c3d5331d75dcd7884ebf9a0864620e8c", checked := Try.checked }
namespace Rows
def none {H : Type} : Left H := { results := [], args := [] }

/-- 'laws.FnExactFaceValid': WHATEVER THE INPUT: true; the input reads as it did. -/
def fnExactFaceValidSpec : ChangeSpec := { name := "fnExactFaceValid", fn := fun _ => fun
  | [d] => { results := [.lit (.bool true)], args := [d] }
  | _ => none }
def fnExactFaceValidRow : OpenClaim := { program := "ytfjhnbpphbjpjaa", sum := "71d2b568b9305d919f8f2031a255f3c0c3d5331d75dcd7884ebf9a0864620e8c", func := "loop.example/sundials/laws.FnExactFaceValid", spec := "fnExactFaceValid", apart := false }
def FnExactFaceValidSaid : Prop := fnExactFaceValidRow.holds Try.pinned (OpenSpec.ofChange fnExactFaceValidSpec)

/-- ITS FALSE NEIGHBOUR: 'it returns false'. Refute it at one input. -/
def fnExactFaceValidWrong : ChangeSpec := { name := "fnExactFaceValid", fn := fun _ => fun
  | [d] => { results := [.lit (.bool false)], args := [d] }
  | _ => none }
def FnExactFaceValidWrongFalsely : Prop := fnExactFaceValidRow.holds Try.pinned (OpenSpec.ofChange fnExactFaceValidWrong)

/-- 'laws.FnExactFaceGain': WHATEVER THE INPUT: true; the input reads as it did. -/
def fnExactFaceGainSpec : ChangeSpec := { name := "fnExactFaceGain", fn := fun _ => fun
  | [d1, d2] => { results := [.lit (.bool true)], args := [d1, d2] }
  | _ => none }
def fnExactFaceGainRow : OpenClaim := { program := "ytfjhnbpphbjpjaa", sum := "71d2b568b9305d919f8f2031a255f3c0c3d5331d75dcd7884ebf9a0864620e8c", func := "loop.example/sundials/laws.FnExactFaceGain", spec := "fnExactFaceGain", apart := false }
def FnExactFaceGainSaid : Prop := fnExactFaceGainRow.holds Try.pinned (OpenSpec.ofChange fnExactFaceGainSpec)

/-- ITS FALSE NEIGHBOUR: 'it returns false'. Refute it at one input. -/
def fnExactFaceGainWrong : ChangeSpec := { name := "fnExactFaceGain", fn := fun _ => fun
  | [d1, d2] => { results := [.lit (.bool false)], args := [d1, d2] }
  | _ => none }
def FnExactFaceGainWrongFalsely : Prop := fnExactFaceGainRow.holds Try.pinned (OpenSpec.ofChange fnExactFaceGainWrong)

/-- 'laws.FnExactFaceSum': WHATEVER THE INPUT: true; the input reads as it did. -/
def fnExactFaceSumSpec : ChangeSpec := { name := "fnExactFaceSum", fn := fun _ => fun
  | [d1, d2] => { results := [.lit (.bool true)], args := [d1, d2] }
  | _ => none }
def fnExactFaceSumRow : OpenClaim := { program := "ytfjhnbpphbjpjaa", sum := "71d2b568b9305d919f8f2031a255f3c0c3d5331d75dcd7884ebf9a0864620e8c", func := "loop.example/sundials/laws.FnExactFaceSum", spec := "fnExactFaceSum", unfollowed := true, recurses := true, apart := false }
def FnExactFaceSumSaid : Prop := fnExactFaceSumRow.holds Try.pinned (OpenSpec.ofChange fnExactFaceSumSpec)

/-- ITS FALSE NEIGHBOUR: 'it returns false'. Refute it at one input. -/
def fnExactFaceSumWrong : ChangeSpec := { name := "fnExactFaceSum", fn := fun _ => fun
  | [d1, d2] => { results := [.lit (.bool false)], args := [d1, d2] }
  | _ => none }
def FnExactFaceSumWrongFalsely : Prop := fnExactFaceSumRow.holds Try.pinned (OpenSpec.ofChange fnExactFaceSumWrong)

/-- 'laws.FnExactRowValid': WHATEVER THE INPUT: true; the input reads as it did. -/
def fnExactRowValidSpec : ChangeSpec := { name := "fnExactRowValid", fn := fun _ => fun
  | [d] => { results := [.lit (.bool true)], args := [d] }
  | _ => none }
def fnExactRowValidRow : OpenClaim := { program := "ytfjhnbpphbjpjaa", sum := "71d2b568b9305d919f8f2031a255f3c0c3d5331d75dcd7884ebf9a0864620e8c", func := "loop.example/sundials/laws.FnExactRowValid", spec := "fnExactRowValid", unfollowed := true, recurses := true, apart := false }
def FnExactRowValidSaid : Prop := fnExactRowValidRow.holds Try.pinned (OpenSpec.ofChange fnExactRowValidSpec)

/-- ITS FALSE NEIGHBOUR: 'it returns false'. Refute it at one input. -/
def fnExactRowValidWrong : ChangeSpec := { name := "fnExactRowValid", fn := fun _ => fun
  | [d] => { results := [.lit (.bool false)], args := [d] }
  | _ => none }
def FnExactRowValidWrongFalsely : Prop := fnExactRowValidRow.holds Try.pinned (OpenSpec.ofChange fnExactRowValidWrong)

/-- 'laws.FnExactRowOk': WHATEVER THE INPUT: true; the input reads as it did. -/
def fnExactRowOkSpec : ChangeSpec := { name := "fnExactRowOk", fn := fun _ => fun
  | [d1, d2] => { results := [.lit (.bool true)], args := [d1, d2] }
  | _ => none }
def fnExactRowOkRow : OpenClaim := { program := "ytfjhnbpphbjpjaa", sum := "71d2b568b9305d919f8f2031a255f3c0c3d5331d75dcd7884ebf9a0864620e8c", func := "loop.example/sundials/laws.FnExactRowOk", spec := "fnExactRowOk", unfollowed := true, recurses := true, apart := false }
def FnExactRowOkSaid : Prop := fnExactRowOkRow.holds Try.pinned (OpenSpec.ofChange fnExactRowOkSpec)

/-- ITS FALSE NEIGHBOUR: 'it returns false'. Refute it at one input. -/
def fnExactRowOkWrong : ChangeSpec := { name := "fnExactRowOk", fn := fun _ => fun
  | [d1, d2] => { results := [.lit (.bool false)], args := [d1, d2] }
  | _ => none }
def FnExactRowOkWrongFalsely : Prop := fnExactRowOkRow.holds Try.pinned (OpenSpec.ofChange fnExactRowOkWrong)

/-- 'laws.FnExactRowSum': WHATEVER THE INPUT: true; the input reads as it did. -/
def fnExactRowSumSpec : ChangeSpec := { name := "fnExactRowSum", fn := fun _ => fun
  | [d1, d2] => { results := [.lit (.bool true)], args := [d1, d2] }
  | _ => none }
def fnExactRowSumRow : OpenClaim := { program := "ytfjhnbpphbjpjaa", sum := "71d2b568b9305d919f8f2031a255f3c0c3d5331d75dcd7884ebf9a0864620e8c", func := "loop.example/sundials/laws.FnExactRowSum", spec := "fnExactRowSum", unfollowed := true, recurses := true, apart := false }
def FnExactRowSumSaid : Prop := fnExactRowSumRow.holds Try.pinned (OpenSpec.ofChange fnExactRowSumSpec)

/-- ITS FALSE NEIGHBOUR: 'it returns false'. Refute it at one input. -/
def fnExactRowSumWrong : ChangeSpec := { name := "fnExactRowSum", fn := fun _ => fun
  | [d1, d2] => { results := [.lit (.bool false)], args := [d1, d2] }
  | _ => none }
def FnExactRowSumWrongFalsely : Prop := fnExactRowSumRow.holds Try.pinned (OpenSpec.ofChange fnExactRowSumWrong)

/-- 'laws.FnExactRowMost': WHATEVER THE INPUT: true; the input reads as it did. -/
def fnExactRowMostSpec : ChangeSpec := { name := "fnExactRowMost", fn := fun _ => fun
  | [d] => { results := [.lit (.bool true)], args := [d] }
  | _ => none }
def fnExactRowMostRow : OpenClaim := { program := "ytfjhnbpphbjpjaa", sum := "71d2b568b9305d919f8f2031a255f3c0c3d5331d75dcd7884ebf9a0864620e8c", func := "loop.example/sundials/laws.FnExactRowMost", spec := "fnExactRowMost", unfollowed := true, recurses := true, apart := false }
def FnExactRowMostSaid : Prop := fnExactRowMostRow.holds Try.pinned (OpenSpec.ofChange fnExactRowMostSpec)

/-- ITS FALSE NEIGHBOUR: 'it returns false'. Refute it at one input. -/
def fnExactRowMostWrong : ChangeSpec := { name := "fnExactRowMost", fn := fun _ => fun
  | [d] => { results := [.lit (.bool false)], args := [d] }
  | _ => none }
def FnExactRowMostWrongFalsely : Prop := fnExactRowMostRow.holds Try.pinned (OpenSpec.ofChange fnExactRowMostWrong)

/-- 'laws.FnExactRowBest': WHATEVER THE INPUT: true; the input reads as it did. -/
def fnExactRowBestSpec : ChangeSpec := { name := "fnExactRowBest", fn := fun _ => fun
  | [d] => { results := [.lit (.bool true)], args := [d] }
  | _ => none }
def fnExactRowBestRow : OpenClaim := { program := "ytfjhnbpphbjpjaa", sum := "71d2b568b9305d919f8f2031a255f3c0c3d5331d75dcd7884ebf9a0864620e8c", func := "loop.example/sundials/laws.FnExactRowBest", spec := "fnExactRowBest", unfollowed := true, recurses := true, apart := false }
def FnExactRowBestSaid : Prop := fnExactRowBestRow.holds Try.pinned (OpenSpec.ofChange fnExactRowBestSpec)

/-- ITS FALSE NEIGHBOUR: 'it returns false'. Refute it at one input. -/
def fnExactRowBestWrong : ChangeSpec := { name := "fnExactRowBest", fn := fun _ => fun
  | [d] => { results := [.lit (.bool false)], args := [d] }
  | _ => none }
def FnExactRowBestWrongFalsely : Prop := fnExactRowBestRow.holds Try.pinned (OpenSpec.ofChange fnExactRowBestWrong)

/-- 'laws.FnExactHoursValid': WHATEVER THE INPUT: true; the input reads as it did. -/
def fnExactHoursValidSpec : ChangeSpec := { name := "fnExactHoursValid", fn := fun _ => fun
  | [d] => { results := [.lit (.bool true)], args := [d] }
  | _ => none }
def fnExactHoursValidRow : OpenClaim := { program := "ytfjhnbpphbjpjaa", sum := "71d2b568b9305d919f8f2031a255f3c0c3d5331d75dcd7884ebf9a0864620e8c", func := "loop.example/sundials/laws.FnExactHoursValid", spec := "fnExactHoursValid", unfollowed := true, recurses := true, apart := false }
def FnExactHoursValidSaid : Prop := fnExactHoursValidRow.holds Try.pinned (OpenSpec.ofChange fnExactHoursValidSpec)

/-- ITS FALSE NEIGHBOUR: 'it returns false'. Refute it at one input. -/
def fnExactHoursValidWrong : ChangeSpec := { name := "fnExactHoursValid", fn := fun _ => fun
  | [d] => { results := [.lit (.bool false)], args := [d] }
  | _ => none }
def FnExactHoursValidWrongFalsely : Prop := fnExactHoursValidRow.holds Try.pinned (OpenSpec.ofChange fnExactHoursValidWrong)

/- THE SECOND FORM. 'bulk': how many values and letters a reading holds, each counted each time it is reached (what is shared counts as often as it is met; a slice's spare places count too). A statement '..UptoSaid' is the law's where the arguments, and the package variables that the reading takes, are together of bulk at most 1048576: NARROWER than '..Said'. Prove '..Said' where nothing that the law and all that it calls make is longer than what came in: it says more and counts as full. Else prove '..UptoSaid'. A law counts once. -/
mutual
def uptoBulk {H : Type} : DataW H → Nat
  | .lit (.string bytes) => bytes.length + 1
  | .lit _ => 1
  | .nil => 1
  | .ptr d => uptoBulk d + 1
  | .slice elems spare => uptoBulkAll elems + uptoBulkAll spare + 1
  | .agg parts => uptoBulkAll parts + 1
  | .iface _ d => uptoBulk d + 1
  | .map entries => uptoBulkEntries entries + 1
  | .held _ => 1
def uptoBulkAll {H : Type} : List (DataW H) → Nat
  | [] => 0
  | d :: r => uptoBulk d + uptoBulkAll r
def uptoBulkEntries {H : Type} : List (Lit × DataW H) → Nat
  | [] => 0
  | x :: r => uptoBulkEntry x + uptoBulkEntries r
def uptoBulkEntry {H : Type} : Lit × DataW H → Nat
  | (.string bytes, d) => bytes.length + uptoBulk d + 1
  | (_, d) => uptoBulk d + 1
 end
def uptoSmall : (H : Type) → List (DataW H) → Bool := fun _ ds => decide (uptoBulkAll ds ≤ 1048576)
def OpenSpec.upto (s : _root_.Go.ChangeSpec) : _root_.Go.OpenSpec := { _root_.Go.OpenSpec.ofChange s with cond := some uptoSmall }

/-- 'laws.FnExactFaceValid', WHERE WHAT IT READS IS OF BULK AT MOST 1048576: true; the input reads as it did. -/
def fnExactFaceValidUptoRow : OpenClaim := { program := "ytfjhnbpphbjpjaa", sum := "71d2b568b9305d919f8f2031a255f3c0c3d5331d75dcd7884ebf9a0864620e8c", func := "loop.example/sundials/laws.FnExactFaceValid", spec := "fnExactFaceValid", apart := false, narrowed := true }
def FnExactFaceValidUptoSaid : Prop := fnExactFaceValidUptoRow.holds Try.pinned (OpenSpec.upto fnExactFaceValidSpec)

/-- 'laws.FnExactFaceGain', WHERE WHAT IT READS IS OF BULK AT MOST 1048576: true; the input reads as it did. -/
def fnExactFaceGainUptoRow : OpenClaim := { program := "ytfjhnbpphbjpjaa", sum := "71d2b568b9305d919f8f2031a255f3c0c3d5331d75dcd7884ebf9a0864620e8c", func := "loop.example/sundials/laws.FnExactFaceGain", spec := "fnExactFaceGain", apart := false, narrowed := true }
def FnExactFaceGainUptoSaid : Prop := fnExactFaceGainUptoRow.holds Try.pinned (OpenSpec.upto fnExactFaceGainSpec)

/-- 'laws.FnExactFaceSum', WHERE WHAT IT READS IS OF BULK AT MOST 1048576: true; the input reads as it did. -/
def fnExactFaceSumUptoRow : OpenClaim := { program := "ytfjhnbpphbjpjaa", sum := "71d2b568b9305d919f8f2031a255f3c0c3d5331d75dcd7884ebf9a0864620e8c", func := "loop.example/sundials/laws.FnExactFaceSum", spec := "fnExactFaceSum", unfollowed := true, recurses := true, apart := false, narrowed := true }
def FnExactFaceSumUptoSaid : Prop := fnExactFaceSumUptoRow.holds Try.pinned (OpenSpec.upto fnExactFaceSumSpec)

/-- 'laws.FnExactRowValid', WHERE WHAT IT READS IS OF BULK AT MOST 1048576: true; the input reads as it did. -/
def fnExactRowValidUptoRow : OpenClaim := { program := "ytfjhnbpphbjpjaa", sum := "71d2b568b9305d919f8f2031a255f3c0c3d5331d75dcd7884ebf9a0864620e8c", func := "loop.example/sundials/laws.FnExactRowValid", spec := "fnExactRowValid", unfollowed := true, recurses := true, apart := false, narrowed := true }
def FnExactRowValidUptoSaid : Prop := fnExactRowValidUptoRow.holds Try.pinned (OpenSpec.upto fnExactRowValidSpec)

/-- 'laws.FnExactRowOk', WHERE WHAT IT READS IS OF BULK AT MOST 1048576: true; the input reads as it did. -/
def fnExactRowOkUptoRow : OpenClaim := { program := "ytfjhnbpphbjpjaa", sum := "71d2b568b9305d919f8f2031a255f3c0c3d5331d75dcd7884ebf9a0864620e8c", func := "loop.example/sundials/laws.FnExactRowOk", spec := "fnExactRowOk", unfollowed := true, recurses := true, apart := false, narrowed := true }
def FnExactRowOkUptoSaid : Prop := fnExactRowOkUptoRow.holds Try.pinned (OpenSpec.upto fnExactRowOkSpec)

/-- 'laws.FnExactRowSum', WHERE WHAT IT READS IS OF BULK AT MOST 1048576: true; the input reads as it did. -/
def fnExactRowSumUptoRow : OpenClaim := { program := "ytfjhnbpphbjpjaa", sum := "71d2b568b9305d919f8f2031a255f3c0c3d5331d75dcd7884ebf9a0864620e8c", func := "loop.example/sundials/laws.FnExactRowSum", spec := "fnExactRowSum", unfollowed := true, recurses := true, apart := false, narrowed := true }
def FnExactRowSumUptoSaid : Prop := fnExactRowSumUptoRow.holds Try.pinned (OpenSpec.upto fnExactRowSumSpec)

/-- 'laws.FnExactRowMost', WHERE WHAT IT READS IS OF BULK AT MOST 1048576: true; the input reads as it did. -/
def fnExactRowMostUptoRow : OpenClaim := { program := "ytfjhnbpphbjpjaa", sum := "71d2b568b9305d919f8f2031a255f3c0c3d5331d75dcd7884ebf9a0864620e8c", func := "loop.example/sundials/laws.FnExactRowMost", spec := "fnExactRowMost", unfollowed := true, recurses := true, apart := false, narrowed := true }
def FnExactRowMostUptoSaid : Prop := fnExactRowMostUptoRow.holds Try.pinned (OpenSpec.upto fnExactRowMostSpec)

/-- 'laws.FnExactRowBest', WHERE WHAT IT READS IS OF BULK AT MOST 1048576: true; the input reads as it did. -/
def fnExactRowBestUptoRow : OpenClaim := { program := "ytfjhnbpphbjpjaa", sum := "71d2b568b9305d919f8f2031a255f3c0c3d5331d75dcd7884ebf9a0864620e8c", func := "loop.example/sundials/laws.FnExactRowBest", spec := "fnExactRowBest", unfollowed := true, recurses := true, apart := false, narrowed := true }
def FnExactRowBestUptoSaid : Prop := fnExactRowBestUptoRow.holds Try.pinned (OpenSpec.upto fnExactRowBestSpec)

/-- 'laws.FnExactHoursValid', WHERE WHAT IT READS IS OF BULK AT MOST 1048576: true; the input reads as it did. -/
def fnExactHoursValidUptoRow : OpenClaim := { program := "ytfjhnbpphbjpjaa", sum := "71d2b568b9305d919f8f2031a255f3c0c3d5331d75dcd7884ebf9a0864620e8c", func := "loop.example/sundials/laws.FnExactHoursValid", spec := "fnExactHoursValid", unfollowed := true, recurses := true, apart := false, narrowed := true }
def FnExactHoursValidUptoSaid : Prop := fnExactHoursValidUptoRow.holds Try.pinned (OpenSpec.upto fnExactHoursValidSpec)

end Rows
end Go.Proofs.Ytfjhnbpphbjpjaa
