/-
  No cell of these rows narrows 'for every input' (looked for: loops, veiled, ifaces, maps, wideKeys, modest, calm, conditions, laid).
  DERIVED. THE GIVEN ROWS OF THIS SEAT. 9 by the template 'for every input the law returns true; each argument reads behind the call as it read before'; 0 by the template 'total and deterministic' (their statements: YtbegajmdadkknaaTotals.lean).
  GIVEN WITH THE SEED: the statements are not yours to turn. If you find one false, say at which input.
  Laid BY PROGRAM, IN A SANDBOX (cutbox-rows.mjs): the forced cells as the released guide's own fill.sh prints them over the translation f4fb837155f1da4d… (all of the seat's roots in one cut). By AI agents, Wed Nov 11 2026. No macro, syntax, notation, axiom, sorry.
-/
import Derived.Test.YtbegajmdadkknaaChecked
import GoSem.Claim
import GoSem.ClaimJoined
import GoSem.ClaimMapViews
import Derived.JoinedTies
import Derived.KernelRfl
namespace Go.Proofs.Ytbegajmdadkknaa
/- THE CELL 'sum', in the pinned program and in every row, IS THE sha256 OF THE DUMP (.gsa) THAT YtbegajmdadkknaaProg.lean LOADS. Nothing in Lean hashes anything: it is a label: what it is worth is what the hold of that sum in a sandbox is worth. -/
noncomputable def Try.pinned : Pinned := { name := "ytbegajmdadkknaa", sum := "f4fb837155f1da4dcb25823e1196f55f8d7092d0085811cde934dcb61505d831", checked := Try.checked }
namespace Rows
def none {H : Type} : Left H := { results := [], args := [] }

/-- 'laws.FnWayValid': WHATEVER THE INPUT: true; the input reads as it did. -/
def fnWayValidSpec : ChangeSpec := { name := "fnWayValid", fn := fun _ => fun
  | [d] => { results := [.lit (.bool true)], args := [d] }
  | _ => none }
def fnWayValidRow : OpenClaim := { program := "ytbegajmdadkknaa", sum := "f4fb837155f1da4dcb25823e1196f55f8d7092d0085811cde934dcb61505d831", func := "loop.example/sundials/laws.FnWayValid", spec := "fnWayValid", apart := false }
def FnWayValidSaid : Prop := fnWayValidRow.holds Try.pinned (OpenSpec.ofChange fnWayValidSpec)

/-- ITS FALSE NEIGHBOUR: 'it returns false'. Refute it at one input. -/
def fnWayValidWrong : ChangeSpec := { name := "fnWayValid", fn := fun _ => fun
  | [d] => { results := [.lit (.bool false)], args := [d] }
  | _ => none }
def FnWayValidWrongFalsely : Prop := fnWayValidRow.holds Try.pinned (OpenSpec.ofChange fnWayValidWrong)

/-- 'laws.FnWayAdd': WHATEVER THE INPUT: true; the input reads as it did. -/
def fnWayAddSpec : ChangeSpec := { name := "fnWayAdd", fn := fun _ => fun
  | [d] => { results := [.lit (.bool true)], args := [d] }
  | _ => none }
def fnWayAddRow : OpenClaim := { program := "ytbegajmdadkknaa", sum := "f4fb837155f1da4dcb25823e1196f55f8d7092d0085811cde934dcb61505d831", func := "loop.example/sundials/laws.FnWayAdd", spec := "fnWayAdd", apart := false }
def FnWayAddSaid : Prop := fnWayAddRow.holds Try.pinned (OpenSpec.ofChange fnWayAddSpec)

/-- ITS FALSE NEIGHBOUR: 'it returns false'. Refute it at one input. -/
def fnWayAddWrong : ChangeSpec := { name := "fnWayAdd", fn := fun _ => fun
  | [d] => { results := [.lit (.bool false)], args := [d] }
  | _ => none }
def FnWayAddWrongFalsely : Prop := fnWayAddRow.holds Try.pinned (OpenSpec.ofChange fnWayAddWrong)

/-- 'laws.FnWayTimes': WHATEVER THE INPUT: true; the input reads as it did. -/
def fnWayTimesSpec : ChangeSpec := { name := "fnWayTimes", fn := fun _ => fun
  | [d1, d2] => { results := [.lit (.bool true)], args := [d1, d2] }
  | _ => none }
def fnWayTimesRow : OpenClaim := { program := "ytbegajmdadkknaa", sum := "f4fb837155f1da4dcb25823e1196f55f8d7092d0085811cde934dcb61505d831", func := "loop.example/sundials/laws.FnWayTimes", spec := "fnWayTimes", apart := false }
def FnWayTimesSaid : Prop := fnWayTimesRow.holds Try.pinned (OpenSpec.ofChange fnWayTimesSpec)

/-- ITS FALSE NEIGHBOUR: 'it returns false'. Refute it at one input. -/
def fnWayTimesWrong : ChangeSpec := { name := "fnWayTimes", fn := fun _ => fun
  | [d1, d2] => { results := [.lit (.bool false)], args := [d1, d2] }
  | _ => none }
def FnWayTimesWrongFalsely : Prop := fnWayTimesRow.holds Try.pinned (OpenSpec.ofChange fnWayTimesWrong)

/-- 'laws.FnWayFlip': WHATEVER THE INPUT: true; the input reads as it did. -/
def fnWayFlipSpec : ChangeSpec := { name := "fnWayFlip", fn := fun _ => fun
  | [d] => { results := [.lit (.bool true)], args := [d] }
  | _ => none }
def fnWayFlipRow : OpenClaim := { program := "ytbegajmdadkknaa", sum := "f4fb837155f1da4dcb25823e1196f55f8d7092d0085811cde934dcb61505d831", func := "loop.example/sundials/laws.FnWayFlip", spec := "fnWayFlip", apart := false }
def FnWayFlipSaid : Prop := fnWayFlipRow.holds Try.pinned (OpenSpec.ofChange fnWayFlipSpec)

/-- ITS FALSE NEIGHBOUR: 'it returns false'. Refute it at one input. -/
def fnWayFlipWrong : ChangeSpec := { name := "fnWayFlip", fn := fun _ => fun
  | [d] => { results := [.lit (.bool false)], args := [d] }
  | _ => none }
def FnWayFlipWrongFalsely : Prop := fnWayFlipRow.holds Try.pinned (OpenSpec.ofChange fnWayFlipWrong)

/-- 'laws.FnWaySquare': WHATEVER THE INPUT: true; the input reads as it did. -/
def fnWaySquareSpec : ChangeSpec := { name := "fnWaySquare", fn := fun _ => fun
  | [d] => { results := [.lit (.bool true)], args := [d] }
  | _ => none }
def fnWaySquareRow : OpenClaim := { program := "ytbegajmdadkknaa", sum := "f4fb837155f1da4dcb25823e1196f55f8d7092d0085811cde934dcb61505d831", func := "loop.example/sundials/laws.FnWaySquare", spec := "fnWaySquare", apart := false }
def FnWaySquareSaid : Prop := fnWaySquareRow.holds Try.pinned (OpenSpec.ofChange fnWaySquareSpec)

/-- ITS FALSE NEIGHBOUR: 'it returns false'. Refute it at one input. -/
def fnWaySquareWrong : ChangeSpec := { name := "fnWaySquare", fn := fun _ => fun
  | [d] => { results := [.lit (.bool false)], args := [d] }
  | _ => none }
def FnWaySquareWrongFalsely : Prop := fnWaySquareRow.holds Try.pinned (OpenSpec.ofChange fnWaySquareWrong)

/-- 'laws.FnDot': WHATEVER THE INPUT: true; the input reads as it did. -/
def fnDotSpec : ChangeSpec := { name := "fnDot", fn := fun _ => fun
  | [d] => { results := [.lit (.bool true)], args := [d] }
  | _ => none }
def fnDotRow : OpenClaim := { program := "ytbegajmdadkknaa", sum := "f4fb837155f1da4dcb25823e1196f55f8d7092d0085811cde934dcb61505d831", func := "loop.example/sundials/laws.FnDot", spec := "fnDot", apart := false }
def FnDotSaid : Prop := fnDotRow.holds Try.pinned (OpenSpec.ofChange fnDotSpec)

/-- ITS FALSE NEIGHBOUR: 'it returns false'. Refute it at one input. -/
def fnDotWrong : ChangeSpec := { name := "fnDot", fn := fun _ => fun
  | [d] => { results := [.lit (.bool false)], args := [d] }
  | _ => none }
def FnDotWrongFalsely : Prop := fnDotRow.holds Try.pinned (OpenSpec.ofChange fnDotWrong)

/-- 'laws.FnCross': WHATEVER THE INPUT: true; the input reads as it did. -/
def fnCrossSpec : ChangeSpec := { name := "fnCross", fn := fun _ => fun
  | [d] => { results := [.lit (.bool true)], args := [d] }
  | _ => none }
def fnCrossRow : OpenClaim := { program := "ytbegajmdadkknaa", sum := "f4fb837155f1da4dcb25823e1196f55f8d7092d0085811cde934dcb61505d831", func := "loop.example/sundials/laws.FnCross", spec := "fnCross", apart := false }
def FnCrossSaid : Prop := fnCrossRow.holds Try.pinned (OpenSpec.ofChange fnCrossSpec)

/-- ITS FALSE NEIGHBOUR: 'it returns false'. Refute it at one input. -/
def fnCrossWrong : ChangeSpec := { name := "fnCross", fn := fun _ => fun
  | [d] => { results := [.lit (.bool false)], args := [d] }
  | _ => none }
def FnCrossWrongFalsely : Prop := fnCrossRow.holds Try.pinned (OpenSpec.ofChange fnCrossWrong)

/-- 'laws.FnRootOf': WHATEVER THE INPUT: true; the input reads as it did. -/
def fnRootOfSpec : ChangeSpec := { name := "fnRootOf", fn := fun _ => fun
  | [d] => { results := [.lit (.bool true)], args := [d] }
  | _ => none }
def fnRootOfRow : OpenClaim := { program := "ytbegajmdadkknaa", sum := "f4fb837155f1da4dcb25823e1196f55f8d7092d0085811cde934dcb61505d831", func := "loop.example/sundials/laws.FnRootOf", spec := "fnRootOf", unfollowed := true, recurses := true, apart := false }
def FnRootOfSaid : Prop := fnRootOfRow.holds Try.pinned (OpenSpec.ofChange fnRootOfSpec)

/-- ITS FALSE NEIGHBOUR: 'it returns false'. Refute it at one input. -/
def fnRootOfWrong : ChangeSpec := { name := "fnRootOf", fn := fun _ => fun
  | [d] => { results := [.lit (.bool false)], args := [d] }
  | _ => none }
def FnRootOfWrongFalsely : Prop := fnRootOfRow.holds Try.pinned (OpenSpec.ofChange fnRootOfWrong)

/-- 'laws.FnHalf': WHATEVER THE INPUT: true; the input reads as it did. -/
def fnHalfSpec : ChangeSpec := { name := "fnHalf", fn := fun _ => fun
  | [d] => { results := [.lit (.bool true)], args := [d] }
  | _ => none }
def fnHalfRow : OpenClaim := { program := "ytbegajmdadkknaa", sum := "f4fb837155f1da4dcb25823e1196f55f8d7092d0085811cde934dcb61505d831", func := "loop.example/sundials/laws.FnHalf", spec := "fnHalf", apart := false }
def FnHalfSaid : Prop := fnHalfRow.holds Try.pinned (OpenSpec.ofChange fnHalfSpec)

/-- ITS FALSE NEIGHBOUR: 'it returns false'. Refute it at one input. -/
def fnHalfWrong : ChangeSpec := { name := "fnHalf", fn := fun _ => fun
  | [d] => { results := [.lit (.bool false)], args := [d] }
  | _ => none }
def FnHalfWrongFalsely : Prop := fnHalfRow.holds Try.pinned (OpenSpec.ofChange fnHalfWrong)

/- THE SECOND FORM. 'bulk': how many values and letters a reading holds, each counted each time it is reached (what is shared counts as often as it is met; a slice's spare places count too). A statement '..UptoSaid' is the law's where the arguments, and the package variables that the reading takes, are together of bulk at most 1048576: NARROWER than '..Said'. Prove '..Said' where nothing that the law and all that it calls make is longer than what came in: it says more and counts as full. Else prove '..UptoSaid'. A law counts once. -/
mutual
def uptoBulk {H : Type} : DataW H → Nat
  | .lit (.string bytes) => bytes.length + 1
  | .lit _ => 1
  | .nil => 1
  | .ptr d => uptoBulk d + 1
  | .slice elems spare => uptoBulkAll elems + uptoBulkAll spare + 1
  | .agg parts => uptoBulkAll parts + 1
  | .iface _ d => uptoBulk d + 1
  | .map entries => uptoBulkEntries entries + 1
  | .held _ => 1
def uptoBulkAll {H : Type} : List (DataW H) → Nat
  | [] => 0
  | d :: r => uptoBulk d + uptoBulkAll r
def uptoBulkEntries {H : Type} : List (Lit × DataW H) → Nat
  | [] => 0
  | x :: r => uptoBulkEntry x + uptoBulkEntries r
def uptoBulkEntry {H : Type} : Lit × DataW H → Nat
  | (.string bytes, d) => bytes.length + uptoBulk d + 1
  | (_, d) => uptoBulk d + 1
 end
def uptoSmall : (H : Type) → List (DataW H) → Bool := fun _ ds => decide (uptoBulkAll ds ≤ 1048576)
def OpenSpec.upto (s : _root_.Go.ChangeSpec) : _root_.Go.OpenSpec := { _root_.Go.OpenSpec.ofChange s with cond := some uptoSmall }

/-- 'laws.FnWayValid', WHERE WHAT IT READS IS OF BULK AT MOST 1048576: true; the input reads as it did. -/
def fnWayValidUptoRow : OpenClaim := { program := "ytbegajmdadkknaa", sum := "f4fb837155f1da4dcb25823e1196f55f8d7092d0085811cde934dcb61505d831", func := "loop.example/sundials/laws.FnWayValid", spec := "fnWayValid", apart := false, narrowed := true }
def FnWayValidUptoSaid : Prop := fnWayValidUptoRow.holds Try.pinned (OpenSpec.upto fnWayValidSpec)

/-- 'laws.FnWayAdd', WHERE WHAT IT READS IS OF BULK AT MOST 1048576: true; the input reads as it did. -/
def fnWayAddUptoRow : OpenClaim := { program := "ytbegajmdadkknaa", sum := "f4fb837155f1da4dcb25823e1196f55f8d7092d0085811cde934dcb61505d831", func := "loop.example/sundials/laws.FnWayAdd", spec := "fnWayAdd", apart := false, narrowed := true }
def FnWayAddUptoSaid : Prop := fnWayAddUptoRow.holds Try.pinned (OpenSpec.upto fnWayAddSpec)

/-- 'laws.FnWayTimes', WHERE WHAT IT READS IS OF BULK AT MOST 1048576: true; the input reads as it did. -/
def fnWayTimesUptoRow : OpenClaim := { program := "ytbegajmdadkknaa", sum := "f4fb837155f1da4dcb25823e1196f55f8d7092d0085811cde934dcb61505d831", func := "loop.example/sundials/laws.FnWayTimes", spec := "fnWayTimes", apart := false, narrowed := true }
def FnWayTimesUptoSaid : Prop := fnWayTimesUptoRow.holds Try.pinned (OpenSpec.upto fnWayTimesSpec)

/-- 'laws.FnWayFlip', WHERE WHAT IT READS IS OF BULK AT MOST 1048576: true; the input reads as it did. -/
def fnWayFlipUptoRow : OpenClaim := { program := "ytbegajmdadkknaa", sum := "f4fb837155f1da4dcb25823e1196f55f8d7092d0085811cde934dcb61505d831", func := "loop.example/sundials/laws.FnWayFlip", spec := "fnWayFlip", apart := false, narrowed := true }
def FnWayFlipUptoSaid : Prop := fnWayFlipUptoRow.holds Try.pinned (OpenSpec.upto fnWayFlipSpec)

/-- 'laws.FnWaySquare', WHERE WHAT IT READS IS OF BULK AT MOST 1048576: true; the input reads as it did. -/
def fnWaySquareUptoRow : OpenClaim := { program := "ytbegajmdadkknaa", sum := "f4fb837155f1da4dcb25823e1196f55f8d7092d0085811cde934dcb61505d831", func := "loop.example/sundials/laws.FnWaySquare", spec := "fnWaySquare", apart := false, narrowed := true }
def FnWaySquareUptoSaid : Prop := fnWaySquareUptoRow.holds Try.pinned (OpenSpec.upto fnWaySquareSpec)

/-- 'laws.FnDot', WHERE WHAT IT READS IS OF BULK AT MOST 1048576: true; the input reads as it did. -/
def fnDotUptoRow : OpenClaim := { program := "ytbegajmdadkknaa", sum := "f4fb837155f1da4dcb25823e1196f55f8d7092d0085811cde934dcb61505d831", func := "loop.example/sundials/laws.FnDot", spec := "fnDot", apart := false, narrowed := true }
def FnDotUptoSaid : Prop := fnDotUptoRow.holds Try.pinned (OpenSpec.upto fnDotSpec)

/-- 'laws.FnCross', WHERE WHAT IT READS IS OF BULK AT MOST 1048576: true; the input reads as it did. -/
def fnCrossUptoRow : OpenClaim := { program := "ytbegajmdadkknaa", sum := "f4fb837155f1da4dcb25823e1196f55f8d7092d0085811cde934dcb61505d831", func := "loop.example/sundials/laws.FnCross", spec := "fnCross", apart := false, narrowed := true }
def FnCrossUptoSaid : Prop := fnCrossUptoRow.holds Try.pinned (OpenSpec.upto fnCrossSpec)

/-- 'laws.FnRootOf', WHERE WHAT IT READS IS OF BULK AT MOST 1048576: true; the input reads as it did. -/
def fnRootOfUptoRow : OpenClaim := { program := "ytbegajmdadkknaa", sum := "f4fb837155f1da4dcb25823e1196f55f8d7092d0085811cde934dcb61505d831", func := "loop.example/sundials/laws.FnRootOf", spec := "fnRootOf", unfollowed := true, recurses := true, apart := false, narrowed := true }
def FnRootOfUptoSaid : Prop := fnRootOfUptoRow.holds Try.pinned (OpenSpec.upto fnRootOfSpec)

/-- 'laws.FnHalf', WHERE WHAT IT READS IS OF BULK AT MOST 1048576: true; the input reads as it did. -/
def fnHalfUptoRow : OpenClaim := { program := "ytbegajmdadkknaa", sum := "f4fb837155f1da4dcb25823e1196f55f8d7092d0085811cde934dcb61505d831", func := "loop.example/sundials/laws.FnHalf", spec := "fnHalf", apart := false, narrowed := true }
def FnHalfUptoSaid : Prop := fnHalfUptoRow.holds Try.pinned (OpenSpec.upto fnHalfSpec)

end Rows
end Go.Proofs.Ytbegajmdadkknaa
