/-
  No cell of these rows narrows 'for every input' (looked for: loops, veiled, ifaces, maps, wideKeys, modest, calm, conditions, laid).
  DERIVED. THE GIVEN ROWS OF THIS SEAT. 9 by the template 'for every input the law returns true; each argument reads behind the call as it read before'; 0 by the template 'total and deterministic' (their statements: YtdinlgfkilmfeaaTotals.lean).
  GIVEN WITH THE SEED: the statements are not yours to turn. If you find one false, say at which input.
  Laid BY PROGRAM, IN A SANDBOX (cutbox-rows.mjs): the forced cells as the released guide's own fill.sh prints them over the translation cc3e2311f7944fc1… (all of the seat's roots in one cut). By AI agents, Wed Nov 11 2026. No macro, syntax, notation, axiom, sorry.
-/
import Derived.Test.YtdinlgfkilmfeaaChecked
import GoSem.Claim
import GoSem.ClaimJoined
import GoSem.ClaimMapViews
import Derived.JoinedTies
import Derived.KernelRfl
namespace Go.Proofs.Ytdinlgfkilmfeaa
/- THE CELL 'sum', in the pinned program and in every row, IS THE sha256 OF THE DUMP (.gsa) THAT YtdinlgfkilmfeaaProg.lean LOADS. Nothing in Lean hashes anything: it is a label: what it is worth is what the hold of that sum in a sandbox is worth. -/
noncomputable def Try.pinned : Pinned := { name := "ytdinlgfkilmfeaa", sum := "cc3e2311f7944fc16a69dc2a30bf1de5dce703240a52bc178bed07b43f62b33a", checked := Try.checked }
namespace Rows
def none {H : Type} : Left H := { results := [], args := [] }

/-- 'laws.FnExactWayValid': WHATEVER THE INPUT: true; the input reads as it did. -/
def fnExactWayValidSpec : ChangeSpec := { name := "fnExactWayValid", fn := fun _ => fun
  | [d] => { results := [.lit (.bool true)], args := [d] }
  | _ => none }
def fnExactWayValidRow : OpenClaim := { program := "ytdinlgfkilmfeaa", sum := "cc3e2311f7944fc16a69dc2a30bf1de5dce703240a52bc178bed07b43f62b33a", func := "loop.example/sundials/laws.FnExactWayValid", spec := "fnExactWayValid", apart := false }
def FnExactWayValidSaid : Prop := fnExactWayValidRow.holds Try.pinned (OpenSpec.ofChange fnExactWayValidSpec)

/-- ITS FALSE NEIGHBOUR: 'it returns false'. Refute it at one input. -/
def fnExactWayValidWrong : ChangeSpec := { name := "fnExactWayValid", fn := fun _ => fun
  | [d] => { results := [.lit (.bool false)], args := [d] }
  | _ => none }
def FnExactWayValidWrongFalsely : Prop := fnExactWayValidRow.holds Try.pinned (OpenSpec.ofChange fnExactWayValidWrong)

/-- 'laws.FnExactWayAdd': WHATEVER THE INPUT: true; the input reads as it did. -/
def fnExactWayAddSpec : ChangeSpec := { name := "fnExactWayAdd", fn := fun _ => fun
  | [d1, d2] => { results := [.lit (.bool true)], args := [d1, d2] }
  | _ => none }
def fnExactWayAddRow : OpenClaim := { program := "ytdinlgfkilmfeaa", sum := "cc3e2311f7944fc16a69dc2a30bf1de5dce703240a52bc178bed07b43f62b33a", func := "loop.example/sundials/laws.FnExactWayAdd", spec := "fnExactWayAdd", apart := false }
def FnExactWayAddSaid : Prop := fnExactWayAddRow.holds Try.pinned (OpenSpec.ofChange fnExactWayAddSpec)

/-- ITS FALSE NEIGHBOUR: 'it returns false'. Refute it at one input. -/
def fnExactWayAddWrong : ChangeSpec := { name := "fnExactWayAdd", fn := fun _ => fun
  | [d1, d2] => { results := [.lit (.bool false)], args := [d1, d2] }
  | _ => none }
def FnExactWayAddWrongFalsely : Prop := fnExactWayAddRow.holds Try.pinned (OpenSpec.ofChange fnExactWayAddWrong)

/-- 'laws.FnExactWayTimes': WHATEVER THE INPUT: true; the input reads as it did. -/
def fnExactWayTimesSpec : ChangeSpec := { name := "fnExactWayTimes", fn := fun _ => fun
  | [d1, d2] => { results := [.lit (.bool true)], args := [d1, d2] }
  | _ => none }
def fnExactWayTimesRow : OpenClaim := { program := "ytdinlgfkilmfeaa", sum := "cc3e2311f7944fc16a69dc2a30bf1de5dce703240a52bc178bed07b43f62b33a", func := "loop.example/sundials/laws.FnExactWayTimes", spec := "fnExactWayTimes", apart := false }
def FnExactWayTimesSaid : Prop := fnExactWayTimesRow.holds Try.pinned (OpenSpec.ofChange fnExactWayTimesSpec)

/-- ITS FALSE NEIGHBOUR: 'it returns false'. Refute it at one input. -/
def fnExactWayTimesWrong : ChangeSpec := { name := "fnExactWayTimes", fn := fun _ => fun
  | [d1, d2] => { results := [.lit (.bool false)], args := [d1, d2] }
  | _ => none }
def FnExactWayTimesWrongFalsely : Prop := fnExactWayTimesRow.holds Try.pinned (OpenSpec.ofChange fnExactWayTimesWrong)

/-- 'laws.FnExactWayFlip': WHATEVER THE INPUT: true; the input reads as it did. -/
def fnExactWayFlipSpec : ChangeSpec := { name := "fnExactWayFlip", fn := fun _ => fun
  | [d] => { results := [.lit (.bool true)], args := [d] }
  | _ => none }
def fnExactWayFlipRow : OpenClaim := { program := "ytdinlgfkilmfeaa", sum := "cc3e2311f7944fc16a69dc2a30bf1de5dce703240a52bc178bed07b43f62b33a", func := "loop.example/sundials/laws.FnExactWayFlip", spec := "fnExactWayFlip", apart := false }
def FnExactWayFlipSaid : Prop := fnExactWayFlipRow.holds Try.pinned (OpenSpec.ofChange fnExactWayFlipSpec)

/-- ITS FALSE NEIGHBOUR: 'it returns false'. Refute it at one input. -/
def fnExactWayFlipWrong : ChangeSpec := { name := "fnExactWayFlip", fn := fun _ => fun
  | [d] => { results := [.lit (.bool false)], args := [d] }
  | _ => none }
def FnExactWayFlipWrongFalsely : Prop := fnExactWayFlipRow.holds Try.pinned (OpenSpec.ofChange fnExactWayFlipWrong)

/-- 'laws.FnExactWaySquare': WHATEVER THE INPUT: true; the input reads as it did. -/
def fnExactWaySquareSpec : ChangeSpec := { name := "fnExactWaySquare", fn := fun _ => fun
  | [d] => { results := [.lit (.bool true)], args := [d] }
  | _ => none }
def fnExactWaySquareRow : OpenClaim := { program := "ytdinlgfkilmfeaa", sum := "cc3e2311f7944fc16a69dc2a30bf1de5dce703240a52bc178bed07b43f62b33a", func := "loop.example/sundials/laws.FnExactWaySquare", spec := "fnExactWaySquare", apart := false }
def FnExactWaySquareSaid : Prop := fnExactWaySquareRow.holds Try.pinned (OpenSpec.ofChange fnExactWaySquareSpec)

/-- ITS FALSE NEIGHBOUR: 'it returns false'. Refute it at one input. -/
def fnExactWaySquareWrong : ChangeSpec := { name := "fnExactWaySquare", fn := fun _ => fun
  | [d] => { results := [.lit (.bool false)], args := [d] }
  | _ => none }
def FnExactWaySquareWrongFalsely : Prop := fnExactWaySquareRow.holds Try.pinned (OpenSpec.ofChange fnExactWaySquareWrong)

/-- 'laws.FnExactDot': WHATEVER THE INPUT: true; the input reads as it did. -/
def fnExactDotSpec : ChangeSpec := { name := "fnExactDot", fn := fun _ => fun
  | [d1, d2] => { results := [.lit (.bool true)], args := [d1, d2] }
  | _ => none }
def fnExactDotRow : OpenClaim := { program := "ytdinlgfkilmfeaa", sum := "cc3e2311f7944fc16a69dc2a30bf1de5dce703240a52bc178bed07b43f62b33a", func := "loop.example/sundials/laws.FnExactDot", spec := "fnExactDot", apart := false }
def FnExactDotSaid : Prop := fnExactDotRow.holds Try.pinned (OpenSpec.ofChange fnExactDotSpec)

/-- ITS FALSE NEIGHBOUR: 'it returns false'. Refute it at one input. -/
def fnExactDotWrong : ChangeSpec := { name := "fnExactDot", fn := fun _ => fun
  | [d1, d2] => { results := [.lit (.bool false)], args := [d1, d2] }
  | _ => none }
def FnExactDotWrongFalsely : Prop := fnExactDotRow.holds Try.pinned (OpenSpec.ofChange fnExactDotWrong)

/-- 'laws.FnExactCross': WHATEVER THE INPUT: true; the input reads as it did. -/
def fnExactCrossSpec : ChangeSpec := { name := "fnExactCross", fn := fun _ => fun
  | [d1, d2] => { results := [.lit (.bool true)], args := [d1, d2] }
  | _ => none }
def fnExactCrossRow : OpenClaim := { program := "ytdinlgfkilmfeaa", sum := "cc3e2311f7944fc16a69dc2a30bf1de5dce703240a52bc178bed07b43f62b33a", func := "loop.example/sundials/laws.FnExactCross", spec := "fnExactCross", apart := false }
def FnExactCrossSaid : Prop := fnExactCrossRow.holds Try.pinned (OpenSpec.ofChange fnExactCrossSpec)

/-- ITS FALSE NEIGHBOUR: 'it returns false'. Refute it at one input. -/
def fnExactCrossWrong : ChangeSpec := { name := "fnExactCross", fn := fun _ => fun
  | [d1, d2] => { results := [.lit (.bool false)], args := [d1, d2] }
  | _ => none }
def FnExactCrossWrongFalsely : Prop := fnExactCrossRow.holds Try.pinned (OpenSpec.ofChange fnExactCrossWrong)

/-- 'laws.FnExactRootOf': WHATEVER THE INPUT: true; the input reads as it did. -/
def fnExactRootOfSpec : ChangeSpec := { name := "fnExactRootOf", fn := fun _ => fun
  | [d] => { results := [.lit (.bool true)], args := [d] }
  | _ => none }
def fnExactRootOfRow : OpenClaim := { program := "ytdinlgfkilmfeaa", sum := "cc3e2311f7944fc16a69dc2a30bf1de5dce703240a52bc178bed07b43f62b33a", func := "loop.example/sundials/laws.FnExactRootOf", spec := "fnExactRootOf", unfollowed := true, recurses := true, apart := false }
def FnExactRootOfSaid : Prop := fnExactRootOfRow.holds Try.pinned (OpenSpec.ofChange fnExactRootOfSpec)

/-- ITS FALSE NEIGHBOUR: 'it returns false'. Refute it at one input. -/
def fnExactRootOfWrong : ChangeSpec := { name := "fnExactRootOf", fn := fun _ => fun
  | [d] => { results := [.lit (.bool false)], args := [d] }
  | _ => none }
def FnExactRootOfWrongFalsely : Prop := fnExactRootOfRow.holds Try.pinned (OpenSpec.ofChange fnExactRootOfWrong)

/-- 'laws.FnExactHalf': WHATEVER THE INPUT: true; the input reads as it did. -/
def fnExactHalfSpec : ChangeSpec := { name := "fnExactHalf", fn := fun _ => fun
  | [d] => { results := [.lit (.bool true)], args := [d] }
  | _ => none }
def fnExactHalfRow : OpenClaim := { program := "ytdinlgfkilmfeaa", sum := "cc3e2311f7944fc16a69dc2a30bf1de5dce703240a52bc178bed07b43f62b33a", func := "loop.example/sundials/laws.FnExactHalf", spec := "fnExactHalf", apart := false }
def FnExactHalfSaid : Prop := fnExactHalfRow.holds Try.pinned (OpenSpec.ofChange fnExactHalfSpec)

/-- ITS FALSE NEIGHBOUR: 'it returns false'. Refute it at one input. -/
def fnExactHalfWrong : ChangeSpec := { name := "fnExactHalf", fn := fun _ => fun
  | [d] => { results := [.lit (.bool false)], args := [d] }
  | _ => none }
def FnExactHalfWrongFalsely : Prop := fnExactHalfRow.holds Try.pinned (OpenSpec.ofChange fnExactHalfWrong)

/- THE SECOND FORM. 'bulk': how many values and letters a reading holds, each counted each time it is reached (what is shared counts as often as it is met; a slice's spare places count too). A statement '..UptoSaid' is the law's where the arguments, and the package variables that the reading takes, are together of bulk at most 1048576: NARROWER than '..Said'. Prove '..Said' where nothing that the law and all that it calls make is longer than what came in: it says more and counts as full. Else prove '..UptoSaid'. A law counts once. -/
mutual
def uptoBulk {H : Type} : DataW H → Nat
  | .lit (.string bytes) => bytes.length + 1
  | .lit _ => 1
  | .nil => 1
  | .ptr d => uptoBulk d + 1
  | .slice elems spare => uptoBulkAll elems + uptoBulkAll spare + 1
  | .agg parts => uptoBulkAll parts + 1
  | .iface _ d => uptoBulk d + 1
  | .map entries => uptoBulkEntries entries + 1
  | .held _ => 1
def uptoBulkAll {H : Type} : List (DataW H) → Nat
  | [] => 0
  | d :: r => uptoBulk d + uptoBulkAll r
def uptoBulkEntries {H : Type} : List (Lit × DataW H) → Nat
  | [] => 0
  | x :: r => uptoBulkEntry x + uptoBulkEntries r
def uptoBulkEntry {H : Type} : Lit × DataW H → Nat
  | (.string bytes, d) => bytes.length + uptoBulk d + 1
  | (_, d) => uptoBulk d + 1
 end
def uptoSmall : (H : Type) → List (DataW H) → Bool := fun _ ds => decide (uptoBulkAll ds ≤ 1048576)
def OpenSpec.upto (s : _root_.Go.ChangeSpec) : _root_.Go.OpenSpec := { _root_.Go.OpenSpec.ofChange s with cond := some uptoSmall }

/-- 'laws.FnExactWayValid', WHERE WHAT IT READS IS OF BULK AT MOST 1048576: true; the input reads as it did. -/
def fnExactWayValidUptoRow : OpenClaim := { program := "ytdinlgfkilmfeaa", sum := "cc3e2311f7944fc16a69dc2a30bf1de5dce703240a52bc178bed07b43f62b33a", func := "loop.example/sundials/laws.FnExactWayValid", spec := "fnExactWayValid", apart := false, narrowed := true }
def FnExactWayValidUptoSaid : Prop := fnExactWayValidUptoRow.holds Try.pinned (OpenSpec.upto fnExactWayValidSpec)

/-- 'laws.FnExactWayAdd', WHERE WHAT IT READS IS OF BULK AT MOST 1048576: true; the input reads as it did. -/
def fnExactWayAddUptoRow : OpenClaim := { program := "ytdinlgfkilmfeaa", sum := "cc3e2311f7944fc16a69dc2a30bf1de5dce703240a52bc178bed07b43f62b33a", func := "loop.example/sundials/laws.FnExactWayAdd", spec := "fnExactWayAdd", apart := false, narrowed := true }
def FnExactWayAddUptoSaid : Prop := fnExactWayAddUptoRow.holds Try.pinned (OpenSpec.upto fnExactWayAddSpec)

/-- 'laws.FnExactWayTimes', WHERE WHAT IT READS IS OF BULK AT MOST 1048576: true; the input reads as it did. -/
def fnExactWayTimesUptoRow : OpenClaim := { program := "ytdinlgfkilmfeaa", sum := "cc3e2311f7944fc16a69dc2a30bf1de5dce703240a52bc178bed07b43f62b33a", func := "loop.example/sundials/laws.FnExactWayTimes", spec := "fnExactWayTimes", apart := false, narrowed := true }
def FnExactWayTimesUptoSaid : Prop := fnExactWayTimesUptoRow.holds Try.pinned (OpenSpec.upto fnExactWayTimesSpec)

/-- 'laws.FnExactWayFlip', WHERE WHAT IT READS IS OF BULK AT MOST 1048576: true; the input reads as it did. -/
def fnExactWayFlipUptoRow : OpenClaim := { program := "ytdinlgfkilmfeaa", sum := "cc3e2311f7944fc16a69dc2a30bf1de5dce703240a52bc178bed07b43f62b33a", func := "loop.example/sundials/laws.FnExactWayFlip", spec := "fnExactWayFlip", apart := false, narrowed := true }
def FnExactWayFlipUptoSaid : Prop := fnExactWayFlipUptoRow.holds Try.pinned (OpenSpec.upto fnExactWayFlipSpec)

/-- 'laws.FnExactWaySquare', WHERE WHAT IT READS IS OF BULK AT MOST 1048576: true; the input reads as it did. -/
def fnExactWaySquareUptoRow : OpenClaim := { program := "ytdinlgfkilmfeaa", sum := "cc3e2311f7944fc16a69dc2a30bf1de5dce703240a52bc178bed07b43f62b33a", func := "loop.example/sundials/laws.FnExactWaySquare", spec := "fnExactWaySquare", apart := false, narrowed := true }
def FnExactWaySquareUptoSaid : Prop := fnExactWaySquareUptoRow.holds Try.pinned (OpenSpec.upto fnExactWaySquareSpec)

/-- 'laws.FnExactDot', WHERE WHAT IT READS IS OF BULK AT MOST 1048576: true; the input reads as it did. -/
def fnExactDotUptoRow : OpenClaim := { program := "ytdinlgfkilmfeaa", sum := "cc3e2311f7944fc16a69dc2a30bf1de5dce703240a52bc178bed07b43f62b33a", func := "loop.example/sundials/laws.FnExactDot", spec := "fnExactDot", apart := false, narrowed := true }
def FnExactDotUptoSaid : Prop := fnExactDotUptoRow.holds Try.pinned (OpenSpec.upto fnExactDotSpec)

/-- 'laws.FnExactCross', WHERE WHAT IT READS IS OF BULK AT MOST 1048576: true; the input reads as it did. -/
def fnExactCrossUptoRow : OpenClaim := { program := "ytdinlgfkilmfeaa", sum := "cc3e2311f7944fc16a69dc2a30bf1de5dce703240a52bc178bed07b43f62b33a", func := "loop.example/sundials/laws.FnExactCross", spec := "fnExactCross", apart := false, narrowed := true }
def FnExactCrossUptoSaid : Prop := fnExactCrossUptoRow.holds Try.pinned (OpenSpec.upto fnExactCrossSpec)

/-- 'laws.FnExactRootOf', WHERE WHAT IT READS IS OF BULK AT MOST 1048576: true; the input reads as it did. -/
def fnExactRootOfUptoRow : OpenClaim := { program := "ytdinlgfkilmfeaa", sum := "cc3e2311f7944fc16a69dc2a30bf1de5dce703240a52bc178bed07b43f62b33a", func := "loop.example/sundials/laws.FnExactRootOf", spec := "fnExactRootOf", unfollowed := true, recurses := true, apart := false, narrowed := true }
def FnExactRootOfUptoSaid : Prop := fnExactRootOfUptoRow.holds Try.pinned (OpenSpec.upto fnExactRootOfSpec)

/-- 'laws.FnExactHalf', WHERE WHAT IT READS IS OF BULK AT MOST 1048576: true; the input reads as it did. -/
def fnExactHalfUptoRow : OpenClaim := { program := "ytdinlgfkilmfeaa", sum := "cc3e2311f7944fc16a69dc2a30bf1de5dce703240a52bc178bed07b43f62b33a", func := "loop.example/sundials/laws.FnExactHalf", spec := "fnExactHalf", apart := false, narrowed := true }
def FnExactHalfUptoSaid : Prop := fnExactHalfUptoRow.holds Try.pinned (OpenSpec.upto fnExactHalfSpec)

end Rows
end Go.Proofs.Ytdinlgfkilmfeaa
