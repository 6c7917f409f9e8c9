/-
  No cell of these rows narrows 'for every input' (looked for: loops, veiled, ifaces, maps, wideKeys, modest, calm, conditions, laid).
  DERIVED. THE GIVEN ROWS OF THIS SEAT. 9 by the template 'for every input the law returns true; each argument reads behind the call as it read before'; 0 by the template 'total and deterministic' (their statements: YtgkdfckaobfckaaTotals.lean).
  GIVEN WITH THE SEED: the statements are not yours to turn. If you find one false, say at which input.
  Laid BY PROGRAM, IN A SANDBOX (cutbox-rows.mjs): the forced cells as the released guide's own fill.sh prints them over the translation 967c5cd1047870e8… (all of the seat's roots in one cut). By AI agents, Wed Nov 11 2026. No macro, syntax, notation, axiom, sorry.
-/
import Derived.Test.YtgkdfckaobfckaaChecked
import GoSem.Claim
import GoSem.ClaimJoined
import GoSem.ClaimMapViews
import Derived.JoinedTies
import Derived.KernelRfl
namespace Go.Proofs.Ytgkdfckaobfckaa
/- THE CELL 'sum', in the pinned program and in every row, IS THE sha256 OF THE DUMP (.gsa) THAT YtgkdfckaobfckaaProg.lean LOADS. Nothing in Lean hashes anything: it is a label: what it is worth is what the hold of that sum in a sandbox is worth. -/
noncomputable def Try.pinned : Pinned := { name := "ytgkdfckaobfckaa", sum := "967c5cd1047870e82cc161d43e95e4ec006624b882e38b7b74cb03a7c84114b0", checked := Try.checked }
namespace Rows
def none {H : Type} : Left H := { results := [], args := [] }

/-- 'laws.FnExactCityValid': WHATEVER THE INPUT: true; the input reads as it did. -/
def fnExactCityValidSpec : ChangeSpec := { name := "fnExactCityValid", fn := fun _ => fun
  | [d] => { results := [.lit (.bool true)], args := [d] }
  | _ => none }
def fnExactCityValidRow : OpenClaim := { program := "ytgkdfckaobfckaa", sum := "967c5cd1047870e82cc161d43e95e4ec006624b882e38b7b74cb03a7c84114b0", func := "loop.example/sundials/laws.FnExactCityValid", spec := "fnExactCityValid", unfollowed := true, recurses := true, apart := false }
def FnExactCityValidSaid : Prop := fnExactCityValidRow.holds Try.pinned (OpenSpec.ofChange fnExactCityValidSpec)

/-- ITS FALSE NEIGHBOUR: 'it returns false'. Refute it at one input. -/
def fnExactCityValidWrong : ChangeSpec := { name := "fnExactCityValid", fn := fun _ => fun
  | [d] => { results := [.lit (.bool false)], args := [d] }
  | _ => none }
def FnExactCityValidWrongFalsely : Prop := fnExactCityValidRow.holds Try.pinned (OpenSpec.ofChange fnExactCityValidWrong)

/-- 'laws.FnExactNextCell': WHATEVER THE INPUT: true; the input reads as it did. -/
def fnExactNextCellSpec : ChangeSpec := { name := "fnExactNextCell", fn := fun _ => fun
  | [d1, d2, d3] => { results := [.lit (.bool true)], args := [d1, d2, d3] }
  | _ => none }
def fnExactNextCellRow : OpenClaim := { program := "ytgkdfckaobfckaa", sum := "967c5cd1047870e82cc161d43e95e4ec006624b882e38b7b74cb03a7c84114b0", func := "loop.example/sundials/laws.FnExactNextCell", spec := "fnExactNextCell", unfollowed := true, recurses := true, apart := false }
def FnExactNextCellSaid : Prop := fnExactNextCellRow.holds Try.pinned (OpenSpec.ofChange fnExactNextCellSpec)

/-- ITS FALSE NEIGHBOUR: 'it returns false'. Refute it at one input. -/
def fnExactNextCellWrong : ChangeSpec := { name := "fnExactNextCell", fn := fun _ => fun
  | [d1, d2, d3] => { results := [.lit (.bool false)], args := [d1, d2, d3] }
  | _ => none }
def FnExactNextCellWrongFalsely : Prop := fnExactNextCellRow.holds Try.pinned (OpenSpec.ofChange fnExactNextCellWrong)

/-- 'laws.FnExactDark': WHATEVER THE INPUT: true; the input reads as it did. -/
def fnExactDarkSpec : ChangeSpec := { name := "fnExactDark", fn := fun _ => fun
  | [d1, d2, d3, d4] => { results := [.lit (.bool true)], args := [d1, d2, d3, d4] }
  | _ => none }
def fnExactDarkRow : OpenClaim := { program := "ytgkdfckaobfckaa", sum := "967c5cd1047870e82cc161d43e95e4ec006624b882e38b7b74cb03a7c84114b0", func := "loop.example/sundials/laws.FnExactDark", spec := "fnExactDark", unfollowed := true, recurses := true, apart := false }
def FnExactDarkSaid : Prop := fnExactDarkRow.holds Try.pinned (OpenSpec.ofChange fnExactDarkSpec)

/-- ITS FALSE NEIGHBOUR: 'it returns false'. Refute it at one input. -/
def fnExactDarkWrong : ChangeSpec := { name := "fnExactDark", fn := fun _ => fun
  | [d1, d2, d3, d4] => { results := [.lit (.bool false)], args := [d1, d2, d3, d4] }
  | _ => none }
def FnExactDarkWrongFalsely : Prop := fnExactDarkRow.holds Try.pinned (OpenSpec.ofChange fnExactDarkWrong)

/-- 'laws.FnExactShadeOf': WHATEVER THE INPUT: true; the input reads as it did. -/
def fnExactShadeOfSpec : ChangeSpec := { name := "fnExactShadeOf", fn := fun _ => fun
  | [d1, d2, d3] => { results := [.lit (.bool true)], args := [d1, d2, d3] }
  | _ => none }
def fnExactShadeOfRow : OpenClaim := { program := "ytgkdfckaobfckaa", sum := "967c5cd1047870e82cc161d43e95e4ec006624b882e38b7b74cb03a7c84114b0", func := "loop.example/sundials/laws.FnExactShadeOf", spec := "fnExactShadeOf", unfollowed := true, recurses := true, apart := false }
def FnExactShadeOfSaid : Prop := fnExactShadeOfRow.holds Try.pinned (OpenSpec.ofChange fnExactShadeOfSpec)

/-- ITS FALSE NEIGHBOUR: 'it returns false'. Refute it at one input. -/
def fnExactShadeOfWrong : ChangeSpec := { name := "fnExactShadeOf", fn := fun _ => fun
  | [d1, d2, d3] => { results := [.lit (.bool false)], args := [d1, d2, d3] }
  | _ => none }
def FnExactShadeOfWrongFalsely : Prop := fnExactShadeOfRow.holds Try.pinned (OpenSpec.ofChange fnExactShadeOfWrong)

/-- 'laws.FnExactLitCells': WHATEVER THE INPUT: true; the input reads as it did. -/
def fnExactLitCellsSpec : ChangeSpec := { name := "fnExactLitCells", fn := fun _ => fun
  | [d1, d2, d3] => { results := [.lit (.bool true)], args := [d1, d2, d3] }
  | _ => none }
def fnExactLitCellsRow : OpenClaim := { program := "ytgkdfckaobfckaa", sum := "967c5cd1047870e82cc161d43e95e4ec006624b882e38b7b74cb03a7c84114b0", func := "loop.example/sundials/laws.FnExactLitCells", spec := "fnExactLitCells", unfollowed := true, recurses := true, apart := false }
def FnExactLitCellsSaid : Prop := fnExactLitCellsRow.holds Try.pinned (OpenSpec.ofChange fnExactLitCellsSpec)

/-- ITS FALSE NEIGHBOUR: 'it returns false'. Refute it at one input. -/
def fnExactLitCellsWrong : ChangeSpec := { name := "fnExactLitCells", fn := fun _ => fun
  | [d1, d2, d3] => { results := [.lit (.bool false)], args := [d1, d2, d3] }
  | _ => none }
def FnExactLitCellsWrongFalsely : Prop := fnExactLitCellsRow.holds Try.pinned (OpenSpec.ofChange fnExactLitCellsWrong)

/-- 'laws.FnExactCitySet': WHATEVER THE INPUT: true; the input reads as it did. -/
def fnExactCitySetSpec : ChangeSpec := { name := "fnExactCitySet", fn := fun _ => fun
  | [d1, d2, d3] => { results := [.lit (.bool true)], args := [d1, d2, d3] }
  | _ => none }
def fnExactCitySetRow : OpenClaim := { program := "ytgkdfckaobfckaa", sum := "967c5cd1047870e82cc161d43e95e4ec006624b882e38b7b74cb03a7c84114b0", func := "loop.example/sundials/laws.FnExactCitySet", spec := "fnExactCitySet", unfollowed := true, recurses := true, apart := false }
def FnExactCitySetSaid : Prop := fnExactCitySetRow.holds Try.pinned (OpenSpec.ofChange fnExactCitySetSpec)

/-- ITS FALSE NEIGHBOUR: 'it returns false'. Refute it at one input. -/
def fnExactCitySetWrong : ChangeSpec := { name := "fnExactCitySet", fn := fun _ => fun
  | [d1, d2, d3] => { results := [.lit (.bool false)], args := [d1, d2, d3] }
  | _ => none }
def FnExactCitySetWrongFalsely : Prop := fnExactCitySetRow.holds Try.pinned (OpenSpec.ofChange fnExactCitySetWrong)

/-- 'laws.FnExactKeepLit': WHATEVER THE INPUT: true; the input reads as it did. -/
def fnExactKeepLitSpec : ChangeSpec := { name := "fnExactKeepLit", fn := fun _ => fun
  | [d1, d2, d3, d4] => { results := [.lit (.bool true)], args := [d1, d2, d3, d4] }
  | _ => none }
def fnExactKeepLitRow : OpenClaim := { program := "ytgkdfckaobfckaa", sum := "967c5cd1047870e82cc161d43e95e4ec006624b882e38b7b74cb03a7c84114b0", func := "loop.example/sundials/laws.FnExactKeepLit", spec := "fnExactKeepLit", unfollowed := true, recurses := true, apart := false }
def FnExactKeepLitSaid : Prop := fnExactKeepLitRow.holds Try.pinned (OpenSpec.ofChange fnExactKeepLitSpec)

/-- ITS FALSE NEIGHBOUR: 'it returns false'. Refute it at one input. -/
def fnExactKeepLitWrong : ChangeSpec := { name := "fnExactKeepLit", fn := fun _ => fun
  | [d1, d2, d3, d4] => { results := [.lit (.bool false)], args := [d1, d2, d3, d4] }
  | _ => none }
def FnExactKeepLitWrongFalsely : Prop := fnExactKeepLitRow.holds Try.pinned (OpenSpec.ofChange fnExactKeepLitWrong)

/-- 'laws.FnExactCityTurn': WHATEVER THE INPUT: true; the input reads as it did. -/
def fnExactCityTurnSpec : ChangeSpec := { name := "fnExactCityTurn", fn := fun _ => fun
  | [d] => { results := [.lit (.bool true)], args := [d] }
  | _ => none }
def fnExactCityTurnRow : OpenClaim := { program := "ytgkdfckaobfckaa", sum := "967c5cd1047870e82cc161d43e95e4ec006624b882e38b7b74cb03a7c84114b0", func := "loop.example/sundials/laws.FnExactCityTurn", spec := "fnExactCityTurn", unfollowed := true, recurses := true, apart := false }
def FnExactCityTurnSaid : Prop := fnExactCityTurnRow.holds Try.pinned (OpenSpec.ofChange fnExactCityTurnSpec)

/-- ITS FALSE NEIGHBOUR: 'it returns false'. Refute it at one input. -/
def fnExactCityTurnWrong : ChangeSpec := { name := "fnExactCityTurn", fn := fun _ => fun
  | [d] => { results := [.lit (.bool false)], args := [d] }
  | _ => none }
def FnExactCityTurnWrongFalsely : Prop := fnExactCityTurnRow.holds Try.pinned (OpenSpec.ofChange fnExactCityTurnWrong)

/-- 'laws.FnExactCitySum': WHATEVER THE INPUT: true; the input reads as it did. -/
def fnExactCitySumSpec : ChangeSpec := { name := "fnExactCitySum", fn := fun _ => fun
  | [d] => { results := [.lit (.bool true)], args := [d] }
  | _ => none }
def fnExactCitySumRow : OpenClaim := { program := "ytgkdfckaobfckaa", sum := "967c5cd1047870e82cc161d43e95e4ec006624b882e38b7b74cb03a7c84114b0", func := "loop.example/sundials/laws.FnExactCitySum", spec := "fnExactCitySum", unfollowed := true, recurses := true, apart := false }
def FnExactCitySumSaid : Prop := fnExactCitySumRow.holds Try.pinned (OpenSpec.ofChange fnExactCitySumSpec)

/-- ITS FALSE NEIGHBOUR: 'it returns false'. Refute it at one input. -/
def fnExactCitySumWrong : ChangeSpec := { name := "fnExactCitySum", fn := fun _ => fun
  | [d] => { results := [.lit (.bool false)], args := [d] }
  | _ => none }
def FnExactCitySumWrongFalsely : Prop := fnExactCitySumRow.holds Try.pinned (OpenSpec.ofChange fnExactCitySumWrong)

/- THE SECOND FORM. 'bulk': how many values and letters a reading holds, each counted each time it is reached (what is shared counts as often as it is met; a slice's spare places count too). A statement '..UptoSaid' is the law's where the arguments, and the package variables that the reading takes, are together of bulk at most 1048576: NARROWER than '..Said'. Prove '..Said' where nothing that the law and all that it calls make is longer than what came in: it says more and counts as full. Else prove '..UptoSaid'. A law counts once. -/
mutual
def uptoBulk {H : Type} : DataW H → Nat
  | .lit (.string bytes) => bytes.length + 1
  | .lit _ => 1
  | .nil => 1
  | .ptr d => uptoBulk d + 1
  | .slice elems spare => uptoBulkAll elems + uptoBulkAll spare + 1
  | .agg parts => uptoBulkAll parts + 1
  | .iface _ d => uptoBulk d + 1
  | .map entries => uptoBulkEntries entries + 1
  | .held _ => 1
def uptoBulkAll {H : Type} : List (DataW H) → Nat
  | [] => 0
  | d :: r => uptoBulk d + uptoBulkAll r
def uptoBulkEntries {H : Type} : List (Lit × DataW H) → Nat
  | [] => 0
  | x :: r => uptoBulkEntry x + uptoBulkEntries r
def uptoBulkEntry {H : Type} : Lit × DataW H → Nat
  | (.string bytes, d) => bytes.length + uptoBulk d + 1
  | (_, d) => uptoBulk d + 1
 end
def uptoSmall : (H : Type) → List (DataW H) → Bool := fun _ ds => decide (uptoBulkAll ds ≤ 1048576)
def OpenSpec.upto (s : _root_.Go.ChangeSpec) : _root_.Go.OpenSpec := { _root_.Go.OpenSpec.ofChange s with cond := some uptoSmall }

/-- 'laws.FnExactCityValid', WHERE WHAT IT READS IS OF BULK AT MOST 1048576: true; the input reads as it did. -/
def fnExactCityValidUptoRow : OpenClaim := { program := "ytgkdfckaobfckaa", sum := "967c5cd1047870e82cc161d43e95e4ec006624b882e38b7b74cb03a7c84114b0", func := "loop.example/sundials/laws.FnExactCityValid", spec := "fnExactCityValid", unfollowed := true, recurses := true, apart := false, narrowed := true }
def FnExactCityValidUptoSaid : Prop := fnExactCityValidUptoRow.holds Try.pinned (OpenSpec.upto fnExactCityValidSpec)

/-- 'laws.FnExactNextCell', WHERE WHAT IT READS IS OF BULK AT MOST 1048576: true; the input reads as it did. -/
def fnExactNextCellUptoRow : OpenClaim := { program := "ytgkdfckaobfckaa", sum := "967c5cd1047870e82cc161d43e95e4ec006624b882e38b7b74cb03a7c84114b0", func := "loop.example/sundials/laws.FnExactNextCell", spec := "fnExactNextCell", unfollowed := true, recurses := true, apart := false, narrowed := true }
def FnExactNextCellUptoSaid : Prop := fnExactNextCellUptoRow.holds Try.pinned (OpenSpec.upto fnExactNextCellSpec)

/-- 'laws.FnExactDark', WHERE WHAT IT READS IS OF BULK AT MOST 1048576: true; the input reads as it did. -/
def fnExactDarkUptoRow : OpenClaim := { program := "ytgkdfckaobfckaa", sum := "967c5cd1047870e82cc161d43e95e4ec006624b882e38b7b74cb03a7c84114b0", func := "loop.example/sundials/laws.FnExactDark", spec := "fnExactDark", unfollowed := true, recurses := true, apart := false, narrowed := true }
def FnExactDarkUptoSaid : Prop := fnExactDarkUptoRow.holds Try.pinned (OpenSpec.upto fnExactDarkSpec)

/-- 'laws.FnExactShadeOf', WHERE WHAT IT READS IS OF BULK AT MOST 1048576: true; the input reads as it did. -/
def fnExactShadeOfUptoRow : OpenClaim := { program := "ytgkdfckaobfckaa", sum := "967c5cd1047870e82cc161d43e95e4ec006624b882e38b7b74cb03a7c84114b0", func := "loop.example/sundials/laws.FnExactShadeOf", spec := "fnExactShadeOf", unfollowed := true, recurses := true, apart := false, narrowed := true }
def FnExactShadeOfUptoSaid : Prop := fnExactShadeOfUptoRow.holds Try.pinned (OpenSpec.upto fnExactShadeOfSpec)

/-- 'laws.FnExactLitCells', WHERE WHAT IT READS IS OF BULK AT MOST 1048576: true; the input reads as it did. -/
def fnExactLitCellsUptoRow : OpenClaim := { program := "ytgkdfckaobfckaa", sum := "967c5cd1047870e82cc161d43e95e4ec006624b882e38b7b74cb03a7c84114b0", func := "loop.example/sundials/laws.FnExactLitCells", spec := "fnExactLitCells", unfollowed := true, recurses := true, apart := false, narrowed := true }
def FnExactLitCellsUptoSaid : Prop := fnExactLitCellsUptoRow.holds Try.pinned (OpenSpec.upto fnExactLitCellsSpec)

/-- 'laws.FnExactCitySet', WHERE WHAT IT READS IS OF BULK AT MOST 1048576: true; the input reads as it did. -/
def fnExactCitySetUptoRow : OpenClaim := { program := "ytgkdfckaobfckaa", sum := "967c5cd1047870e82cc161d43e95e4ec006624b882e38b7b74cb03a7c84114b0", func := "loop.example/sundials/laws.FnExactCitySet", spec := "fnExactCitySet", unfollowed := true, recurses := true, apart := false, narrowed := true }
def FnExactCitySetUptoSaid : Prop := fnExactCitySetUptoRow.holds Try.pinned (OpenSpec.upto fnExactCitySetSpec)

/-- 'laws.FnExactKeepLit', WHERE WHAT IT READS IS OF BULK AT MOST 1048576: true; the input reads as it did. -/
def fnExactKeepLitUptoRow : OpenClaim := { program := "ytgkdfckaobfckaa", sum := "967c5cd1047870e82cc161d43e95e4ec006624b882e38b7b74cb03a7c84114b0", func := "loop.example/sundials/laws.FnExactKeepLit", spec := "fnExactKeepLit", unfollowed := true, recurses := true, apart := false, narrowed := true }
def FnExactKeepLitUptoSaid : Prop := fnExactKeepLitUptoRow.holds Try.pinned (OpenSpec.upto fnExactKeepLitSpec)

/-- 'laws.FnExactCityTurn', WHERE WHAT IT READS IS OF BULK AT MOST 1048576: true; the input reads as it did. -/
def fnExactCityTurnUptoRow : OpenClaim := { program := "ytgkdfckaobfckaa", sum := "967c5cd1047870e82cc161d43e95e4ec006624b882e38b7b74cb03a7c84114b0", func := "loop.example/sundials/laws.FnExactCityTurn", spec := "fnExactCityTurn", unfollowed := true, recurses := true, apart := false, narrowed := true }
def FnExactCityTurnUptoSaid : Prop := fnExactCityTurnUptoRow.holds Try.pinned (OpenSpec.upto fnExactCityTurnSpec)

/-- 'laws.FnExactCitySum', WHERE WHAT IT READS IS OF BULK AT MOST 1048576: true; the input reads as it did. -/
def fnExactCitySumUptoRow : OpenClaim := { program := "ytgkdfckaobfckaa", sum := "967c5cd1047870e82cc161d43e95e4ec006624b882e38b7b74cb03a7c84114b0", func := "loop.example/sundials/laws.FnExactCitySum", spec := "fnExactCitySum", unfollowed := true, recurses := true, apart := false, narrowed := true }
def FnExactCitySumUptoSaid : Prop := fnExactCitySumUptoRow.holds Try.pinned (OpenSpec.upto fnExactCitySumSpec)

end Rows
end Go.Proofs.Ytgkdfckaobfckaa
