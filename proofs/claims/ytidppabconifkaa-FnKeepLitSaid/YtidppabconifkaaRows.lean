/-
  No cell of these rows narrows 'for every input' (looked for: loops, veiled, ifaces, maps, wideKeys, modest, calm, conditions, laid).
  DERIVED. THE GIVEN ROWS OF THIS SEAT. 9 by the template 'for every input the law returns true; each argument reads behind the call as it read before'; 0 by the template 'total and deterministic' (their statements: YtidppabconifkaaTotals.lean).
  GIVEN WITH THE SEED: the statements are not yours to turn. If you find one false, say at which input.
  Laid BY PROGRAM, IN A SANDBOX (cutbox-rows.mjs): the forced cells as the released guide's own fill.sh prints them over the translation 31aee2a4bf0ebb01… (all of the seat's roots in one cut). By AI agents, Wed Nov 11 2026. No macro, syntax, notation, axiom, sorry.
-/
import Derived.Test.YtidppabconifkaaChecked
import GoSem.Claim
import GoSem.ClaimJoined
import GoSem.ClaimMapViews
import Derived.JoinedTies
import Derived.KernelRfl
namespace Go.Proofs.Ytidppabconifkaa
/- THE CELL 'sum', in the pinned program and in every row, IS THE sha256 OF THE DUMP (.gsa) THAT YtidppabconifkaaProg.lean LOADS. Nothing in Lean hashes anything: it is a label: what it is worth is what the hold of that sum in a sandbox is worth. -/
noncomputable def Try.pinned : Pinned := { name := "ytidppabconifkaa", sum := "31aee2a4bf0ebb0139f4a318ff3e02eae10e6504ab8cebfa13ce3358898c3f9e", checked := Try.checked }
namespace Rows
def none {H : Type} : Left H := { results := [], args := [] }

/-- 'laws.FnCityValid': WHATEVER THE INPUT: true; the input reads as it did. -/
def fnCityValidSpec : ChangeSpec := { name := "fnCityValid", fn := fun _ => fun
  | [d] => { results := [.lit (.bool true)], args := [d] }
  | _ => none }
def fnCityValidRow : OpenClaim := { program := "ytidppabconifkaa", sum := "31aee2a4bf0ebb0139f4a318ff3e02eae10e6504ab8cebfa13ce3358898c3f9e", func := "loop.example/sundials/laws.FnCityValid", spec := "fnCityValid", unfollowed := true, recurses := true, apart := false }
def FnCityValidSaid : Prop := fnCityValidRow.holds Try.pinned (OpenSpec.ofChange fnCityValidSpec)

/-- ITS FALSE NEIGHBOUR: 'it returns false'. Refute it at one input. -/
def fnCityValidWrong : ChangeSpec := { name := "fnCityValid", fn := fun _ => fun
  | [d] => { results := [.lit (.bool false)], args := [d] }
  | _ => none }
def FnCityValidWrongFalsely : Prop := fnCityValidRow.holds Try.pinned (OpenSpec.ofChange fnCityValidWrong)

/-- 'laws.FnNextCell': WHATEVER THE INPUT: true; the input reads as it did. -/
def fnNextCellSpec : ChangeSpec := { name := "fnNextCell", fn := fun _ => fun
  | [d] => { results := [.lit (.bool true)], args := [d] }
  | _ => none }
def fnNextCellRow : OpenClaim := { program := "ytidppabconifkaa", sum := "31aee2a4bf0ebb0139f4a318ff3e02eae10e6504ab8cebfa13ce3358898c3f9e", func := "loop.example/sundials/laws.FnNextCell", spec := "fnNextCell", unfollowed := true, recurses := true, apart := false }
def FnNextCellSaid : Prop := fnNextCellRow.holds Try.pinned (OpenSpec.ofChange fnNextCellSpec)

/-- ITS FALSE NEIGHBOUR: 'it returns false'. Refute it at one input. -/
def fnNextCellWrong : ChangeSpec := { name := "fnNextCell", fn := fun _ => fun
  | [d] => { results := [.lit (.bool false)], args := [d] }
  | _ => none }
def FnNextCellWrongFalsely : Prop := fnNextCellRow.holds Try.pinned (OpenSpec.ofChange fnNextCellWrong)

/-- 'laws.FnDark': WHATEVER THE INPUT: true; the input reads as it did. -/
def fnDarkSpec : ChangeSpec := { name := "fnDark", fn := fun _ => fun
  | [d] => { results := [.lit (.bool true)], args := [d] }
  | _ => none }
def fnDarkRow : OpenClaim := { program := "ytidppabconifkaa", sum := "31aee2a4bf0ebb0139f4a318ff3e02eae10e6504ab8cebfa13ce3358898c3f9e", func := "loop.example/sundials/laws.FnDark", spec := "fnDark", unfollowed := true, recurses := true, apart := false }
def FnDarkSaid : Prop := fnDarkRow.holds Try.pinned (OpenSpec.ofChange fnDarkSpec)

/-- ITS FALSE NEIGHBOUR: 'it returns false'. Refute it at one input. -/
def fnDarkWrong : ChangeSpec := { name := "fnDark", fn := fun _ => fun
  | [d] => { results := [.lit (.bool false)], args := [d] }
  | _ => none }
def FnDarkWrongFalsely : Prop := fnDarkRow.holds Try.pinned (OpenSpec.ofChange fnDarkWrong)

/-- 'laws.FnShadeOf': WHATEVER THE INPUT: true; the input reads as it did. -/
def fnShadeOfSpec : ChangeSpec := { name := "fnShadeOf", fn := fun _ => fun
  | [d] => { results := [.lit (.bool true)], args := [d] }
  | _ => none }
def fnShadeOfRow : OpenClaim := { program := "ytidppabconifkaa", sum := "31aee2a4bf0ebb0139f4a318ff3e02eae10e6504ab8cebfa13ce3358898c3f9e", func := "loop.example/sundials/laws.FnShadeOf", spec := "fnShadeOf", unfollowed := true, recurses := true, apart := false }
def FnShadeOfSaid : Prop := fnShadeOfRow.holds Try.pinned (OpenSpec.ofChange fnShadeOfSpec)

/-- ITS FALSE NEIGHBOUR: 'it returns false'. Refute it at one input. -/
def fnShadeOfWrong : ChangeSpec := { name := "fnShadeOf", fn := fun _ => fun
  | [d] => { results := [.lit (.bool false)], args := [d] }
  | _ => none }
def FnShadeOfWrongFalsely : Prop := fnShadeOfRow.holds Try.pinned (OpenSpec.ofChange fnShadeOfWrong)

/-- 'laws.FnLitCells': WHATEVER THE INPUT: true; the input reads as it did. -/
def fnLitCellsSpec : ChangeSpec := { name := "fnLitCells", fn := fun _ => fun
  | [d] => { results := [.lit (.bool true)], args := [d] }
  | _ => none }
def fnLitCellsRow : OpenClaim := { program := "ytidppabconifkaa", sum := "31aee2a4bf0ebb0139f4a318ff3e02eae10e6504ab8cebfa13ce3358898c3f9e", func := "loop.example/sundials/laws.FnLitCells", spec := "fnLitCells", unfollowed := true, recurses := true, apart := false }
def FnLitCellsSaid : Prop := fnLitCellsRow.holds Try.pinned (OpenSpec.ofChange fnLitCellsSpec)

/-- ITS FALSE NEIGHBOUR: 'it returns false'. Refute it at one input. -/
def fnLitCellsWrong : ChangeSpec := { name := "fnLitCells", fn := fun _ => fun
  | [d] => { results := [.lit (.bool false)], args := [d] }
  | _ => none }
def FnLitCellsWrongFalsely : Prop := fnLitCellsRow.holds Try.pinned (OpenSpec.ofChange fnLitCellsWrong)

/-- 'laws.FnCitySet': WHATEVER THE INPUT: true; the input reads as it did. -/
def fnCitySetSpec : ChangeSpec := { name := "fnCitySet", fn := fun _ => fun
  | [d] => { results := [.lit (.bool true)], args := [d] }
  | _ => none }
def fnCitySetRow : OpenClaim := { program := "ytidppabconifkaa", sum := "31aee2a4bf0ebb0139f4a318ff3e02eae10e6504ab8cebfa13ce3358898c3f9e", func := "loop.example/sundials/laws.FnCitySet", spec := "fnCitySet", unfollowed := true, recurses := true, apart := false }
def FnCitySetSaid : Prop := fnCitySetRow.holds Try.pinned (OpenSpec.ofChange fnCitySetSpec)

/-- ITS FALSE NEIGHBOUR: 'it returns false'. Refute it at one input. -/
def fnCitySetWrong : ChangeSpec := { name := "fnCitySet", fn := fun _ => fun
  | [d] => { results := [.lit (.bool false)], args := [d] }
  | _ => none }
def FnCitySetWrongFalsely : Prop := fnCitySetRow.holds Try.pinned (OpenSpec.ofChange fnCitySetWrong)

/-- 'laws.FnCityTurn': WHATEVER THE INPUT: true; the input reads as it did. -/
def fnCityTurnSpec : ChangeSpec := { name := "fnCityTurn", fn := fun _ => fun
  | [d] => { results := [.lit (.bool true)], args := [d] }
  | _ => none }
def fnCityTurnRow : OpenClaim := { program := "ytidppabconifkaa", sum := "31aee2a4bf0ebb0139f4a318ff3e02eae10e6504ab8cebfa13ce3358898c3f9e", func := "loop.example/sundials/laws.FnCityTurn", spec := "fnCityTurn", unfollowed := true, recurses := true, apart := false }
def FnCityTurnSaid : Prop := fnCityTurnRow.holds Try.pinned (OpenSpec.ofChange fnCityTurnSpec)

/-- ITS FALSE NEIGHBOUR: 'it returns false'. Refute it at one input. -/
def fnCityTurnWrong : ChangeSpec := { name := "fnCityTurn", fn := fun _ => fun
  | [d] => { results := [.lit (.bool false)], args := [d] }
  | _ => none }
def FnCityTurnWrongFalsely : Prop := fnCityTurnRow.holds Try.pinned (OpenSpec.ofChange fnCityTurnWrong)

/-- 'laws.FnCitySum': WHATEVER THE INPUT: true; the input reads as it did. -/
def fnCitySumSpec : ChangeSpec := { name := "fnCitySum", fn := fun _ => fun
  | [d] => { results := [.lit (.bool true)], args := [d] }
  | _ => none }
def fnCitySumRow : OpenClaim := { program := "ytidppabconifkaa", sum := "31aee2a4bf0ebb0139f4a318ff3e02eae10e6504ab8cebfa13ce3358898c3f9e", func := "loop.example/sundials/laws.FnCitySum", spec := "fnCitySum", unfollowed := true, recurses := true, apart := false }
def FnCitySumSaid : Prop := fnCitySumRow.holds Try.pinned (OpenSpec.ofChange fnCitySumSpec)

/-- ITS FALSE NEIGHBOUR: 'it returns false'. Refute it at one input. -/
def fnCitySumWrong : ChangeSpec := { name := "fnCitySum", fn := fun _ => fun
  | [d] => { results := [.lit (.bool false)], args := [d] }
  | _ => none }
def FnCitySumWrongFalsely : Prop := fnCitySumRow.holds Try.pinned (OpenSpec.ofChange fnCitySumWrong)

/-- 'laws.FnKeepLit': WHATEVER THE INPUT: true; the input reads as it did. -/
def fnKeepLitSpec : ChangeSpec := { name := "fnKeepLit", fn := fun _ => fun
  | [d] => { results := [.lit (.bool true)], args := [d] }
  | _ => none }
def fnKeepLitRow : OpenClaim := { program := "ytidppabconifkaa", sum := "31aee2a4bf0ebb0139f4a318ff3e02eae10e6504ab8cebfa13ce3358898c3f9e", func := "loop.example/sundials/laws.FnKeepLit", spec := "fnKeepLit", unfollowed := true, recurses := true, apart := false }
def FnKeepLitSaid : Prop := fnKeepLitRow.holds Try.pinned (OpenSpec.ofChange fnKeepLitSpec)

/-- ITS FALSE NEIGHBOUR: 'it returns false'. Refute it at one input. -/
def fnKeepLitWrong : ChangeSpec := { name := "fnKeepLit", fn := fun _ => fun
  | [d] => { results := [.lit (.bool false)], args := [d] }
  | _ => none }
def FnKeepLitWrongFalsely : Prop := fnKeepLitRow.holds Try.pinned (OpenSpec.ofChange fnKeepLitWrong)

/- THE SECOND FORM. 'bulk': how many values and letters a reading holds, each counted each time it is reached (what is shared counts as often as it is met; a slice's spare places count too). A statement '..UptoSaid' is the law's where the arguments, and the package variables that the reading takes, are together of bulk at most 1048576: NARROWER than '..Said'. Prove '..Said' where nothing that the law and all that it calls make is longer than what came in: it says more and counts as full. Else prove '..UptoSaid'. A law counts once. -/
mutual
def uptoBulk {H : Type} : DataW H → Nat
  | .lit (.string bytes) => bytes.length + 1
  | .lit _ => 1
  | .nil => 1
  | .ptr d => uptoBulk d + 1
  | .slice elems spare => uptoBulkAll elems + uptoBulkAll spare + 1
  | .agg parts => uptoBulkAll parts + 1
  | .iface _ d => uptoBulk d + 1
  | .map entries => uptoBulkEntries entries + 1
  | .held _ => 1
def uptoBulkAll {H : Type} : List (DataW H) → Nat
  | [] => 0
  | d :: r => uptoBulk d + uptoBulkAll r
def uptoBulkEntries {H : Type} : List (Lit × DataW H) → Nat
  | [] => 0
  | x :: r => uptoBulkEntry x + uptoBulkEntries r
def uptoBulkEntry {H : Type} : Lit × DataW H → Nat
  | (.string bytes, d) => bytes.length + uptoBulk d + 1
  | (_, d) => uptoBulk d + 1
 end
def uptoSmall : (H : Type) → List (DataW H) → Bool := fun _ ds => decide (uptoBulkAll ds ≤ 1048576)
def OpenSpec.upto (s : _root_.Go.ChangeSpec) : _root_.Go.OpenSpec := { _root_.Go.OpenSpec.ofChange s with cond := some uptoSmall }

/-- 'laws.FnCityValid', WHERE WHAT IT READS IS OF BULK AT MOST 1048576: true; the input reads as it did. -/
def fnCityValidUptoRow : OpenClaim := { program := "ytidppabconifkaa", sum := "31aee2a4bf0ebb0139f4a318ff3e02eae10e6504ab8cebfa13ce3358898c3f9e", func := "loop.example/sundials/laws.FnCityValid", spec := "fnCityValid", unfollowed := true, recurses := true, apart := false, narrowed := true }
def FnCityValidUptoSaid : Prop := fnCityValidUptoRow.holds Try.pinned (OpenSpec.upto fnCityValidSpec)

/-- 'laws.FnNextCell', WHERE WHAT IT READS IS OF BULK AT MOST 1048576: true; the input reads as it did. -/
def fnNextCellUptoRow : OpenClaim := { program := "ytidppabconifkaa", sum := "31aee2a4bf0ebb0139f4a318ff3e02eae10e6504ab8cebfa13ce3358898c3f9e", func := "loop.example/sundials/laws.FnNextCell", spec := "fnNextCell", unfollowed := true, recurses := true, apart := false, narrowed := true }
def FnNextCellUptoSaid : Prop := fnNextCellUptoRow.holds Try.pinned (OpenSpec.upto fnNextCellSpec)

/-- 'laws.FnDark', WHERE WHAT IT READS IS OF BULK AT MOST 1048576: true; the input reads as it did. -/
def fnDarkUptoRow : OpenClaim := { program := "ytidppabconifkaa", sum := "31aee2a4bf0ebb0139f4a318ff3e02eae10e6504ab8cebfa13ce3358898c3f9e", func := "loop.example/sundials/laws.FnDark", spec := "fnDark", unfollowed := true, recurses := true, apart := false, narrowed := true }
def FnDarkUptoSaid : Prop := fnDarkUptoRow.holds Try.pinned (OpenSpec.upto fnDarkSpec)

/-- 'laws.FnShadeOf', WHERE WHAT IT READS IS OF BULK AT MOST 1048576: true; the input reads as it did. -/
def fnShadeOfUptoRow : OpenClaim := { program := "ytidppabconifkaa", sum := "31aee2a4bf0ebb0139f4a318ff3e02eae10e6504ab8cebfa13ce3358898c3f9e", func := "loop.example/sundials/laws.FnShadeOf", spec := "fnShadeOf", unfollowed := true, recurses := true, apart := false, narrowed := true }
def FnShadeOfUptoSaid : Prop := fnShadeOfUptoRow.holds Try.pinned (OpenSpec.upto fnShadeOfSpec)

/-- 'laws.FnLitCells', WHERE WHAT IT READS IS OF BULK AT MOST 1048576: true; the input reads as it did. -/
def fnLitCellsUptoRow : OpenClaim := { program := "ytidppabconifkaa", sum := "31aee2a4bf0ebb0139f4a318ff3e02eae10e6504ab8cebfa13ce3358898c3f9e", func := "loop.example/sundials/laws.FnLitCells", spec := "fnLitCells", unfollowed := true, recurses := true, apart := false, narrowed := true }
def FnLitCellsUptoSaid : Prop := fnLitCellsUptoRow.holds Try.pinned (OpenSpec.upto fnLitCellsSpec)

/-- 'laws.FnCitySet', WHERE WHAT IT READS IS OF BULK AT MOST 1048576: true; the input reads as it did. -/
def fnCitySetUptoRow : OpenClaim := { program := "ytidppabconifkaa", sum := "31aee2a4bf0ebb0139f4a318ff3e02eae10e6504ab8cebfa13ce3358898c3f9e", func := "loop.example/sundials/laws.FnCitySet", spec := "fnCitySet", unfollowed := true, recurses := true, apart := false, narrowed := true }
def FnCitySetUptoSaid : Prop := fnCitySetUptoRow.holds Try.pinned (OpenSpec.upto fnCitySetSpec)

/-- 'laws.FnCityTurn', WHERE WHAT IT READS IS OF BULK AT MOST 1048576: true; the input reads as it did. -/
def fnCityTurnUptoRow : OpenClaim := { program := "ytidppabconifkaa", sum := "31aee2a4bf0ebb0139f4a318ff3e02eae10e6504ab8cebfa13ce3358898c3f9e", func := "loop.example/sundials/laws.FnCityTurn", spec := "fnCityTurn", unfollowed := true, recurses := true, apart := false, narrowed := true }
def FnCityTurnUptoSaid : Prop := fnCityTurnUptoRow.holds Try.pinned (OpenSpec.upto fnCityTurnSpec)

/-- 'laws.FnCitySum', WHERE WHAT IT READS IS OF BULK AT MOST 1048576: true; the input reads as it did. -/
def fnCitySumUptoRow : OpenClaim := { program := "ytidppabconifkaa", sum := "31aee2a4bf0ebb0139f4a318ff3e02eae10e6504ab8cebfa13ce3358898c3f9e", func := "loop.example/sundials/laws.FnCitySum", spec := "fnCitySum", unfollowed := true, recurses := true, apart := false, narrowed := true }
def FnCitySumUptoSaid : Prop := fnCitySumUptoRow.holds Try.pinned (OpenSpec.upto fnCitySumSpec)

/-- 'laws.FnKeepLit', WHERE WHAT IT READS IS OF BULK AT MOST 1048576: true; the input reads as it did. -/
def fnKeepLitUptoRow : OpenClaim := { program := "ytidppabconifkaa", sum := "31aee2a4bf0ebb0139f4a318ff3e02eae10e6504ab8cebfa13ce3358898c3f9e", func := "loop.example/sundials/laws.FnKeepLit", spec := "fnKeepLit", unfollowed := true, recurses := true, apart := false, narrowed := true }
def FnKeepLitUptoSaid : Prop := fnKeepLitUptoRow.holds Try.pinned (OpenSpec.upto fnKeepLitSpec)

end Rows
end Go.Proofs.Ytidppabconifkaa
