/-
  No cell of these rows narrows 'for every input' (looked for: loops, veiled, ifaces, maps, wideKeys, modest, calm, conditions, laid).
  DERIVED. THE GIVEN ROWS OF THIS SEAT. 9 by the template 'for every input the law returns true; each argument reads behind the call as it read before'; 0 by the template 'total and deterministic' (their statements: YtoeblgfaemhbjaaTotals.lean).
  GIVEN WITH THE SEED: the statements are not yours to turn. If you find one false, say at which input.
  Laid BY PROGRAM, IN A SANDBOX (cutbox-rows.mjs): the forced cells as the released guide's own fill.sh prints them over the translation 7783bc4c12e19fa6… (all of the seat's roots in one cut). By AI agents, Wed Nov 11 2026. No macro, syntax, notation, axiom, sorry.
-/
import Derived.Test.YtoeblgfaemhbjaaChecked
import GoSem.Claim
import GoSem.ClaimJoined
import GoSem.ClaimMapViews
import Derived.JoinedTies
import Derived.KernelRfl
namespace Go.Proofs.Ytoeblgfaemhbjaa
/- THE CELL 'sum', in the pinned program and in every row, IS THE sha256 OF THE DUMP (.gsa) THAT YtoeblgfaemhbjaaProg.lean LOADS. Nothing in Lean hashes anything: it is a label: what it is worth is what the hold of that sum in a sandbox is worth. -/
noncomputable def Try.pinned : Pinned := { name := "ytoeblgfaemhbjaa", sum := "7783bc4c12e19fa6fe49c31afef0a41f199c87d03797f5d8a0306f453d976231", checked := Try.checked }
namespace Rows
def none {H : Type} : Left H := { results := [], args := [] }

/-- 'laws.FnBedsValid': WHATEVER THE INPUT: true; the input reads as it did. -/
def fnBedsValidSpec : ChangeSpec := { name := "fnBedsValid", fn := fun _ => fun
  | [d] => { results := [.lit (.bool true)], args := [d] }
  | _ => none }
def fnBedsValidRow : OpenClaim := { program := "ytoeblgfaemhbjaa", sum := "7783bc4c12e19fa6fe49c31afef0a41f199c87d03797f5d8a0306f453d976231", func := "loop.example/sundials/laws.FnBedsValid", spec := "fnBedsValid", unfollowed := true, recurses := true, apart := false }
def FnBedsValidSaid : Prop := fnBedsValidRow.holds Try.pinned (OpenSpec.ofChange fnBedsValidSpec)

/-- ITS FALSE NEIGHBOUR: 'it returns false'. Refute it at one input. -/
def fnBedsValidWrong : ChangeSpec := { name := "fnBedsValid", fn := fun _ => fun
  | [d] => { results := [.lit (.bool false)], args := [d] }
  | _ => none }
def FnBedsValidWrongFalsely : Prop := fnBedsValidRow.holds Try.pinned (OpenSpec.ofChange fnBedsValidWrong)

/-- 'laws.FnPlantsValid': WHATEVER THE INPUT: true; the input reads as it did. -/
def fnPlantsValidSpec : ChangeSpec := { name := "fnPlantsValid", fn := fun _ => fun
  | [d] => { results := [.lit (.bool true)], args := [d] }
  | _ => none }
def fnPlantsValidRow : OpenClaim := { program := "ytoeblgfaemhbjaa", sum := "7783bc4c12e19fa6fe49c31afef0a41f199c87d03797f5d8a0306f453d976231", func := "loop.example/sundials/laws.FnPlantsValid", spec := "fnPlantsValid", unfollowed := true, recurses := true, apart := false }
def FnPlantsValidSaid : Prop := fnPlantsValidRow.holds Try.pinned (OpenSpec.ofChange fnPlantsValidSpec)

/-- ITS FALSE NEIGHBOUR: 'it returns false'. Refute it at one input. -/
def fnPlantsValidWrong : ChangeSpec := { name := "fnPlantsValid", fn := fun _ => fun
  | [d] => { results := [.lit (.bool false)], args := [d] }
  | _ => none }
def FnPlantsValidWrongFalsely : Prop := fnPlantsValidRow.holds Try.pinned (OpenSpec.ofChange fnPlantsValidWrong)

/-- 'laws.FnPlantedMany': WHATEVER THE INPUT: true; the input reads as it did. -/
def fnPlantedManySpec : ChangeSpec := { name := "fnPlantedMany", fn := fun _ => fun
  | [d] => { results := [.lit (.bool true)], args := [d] }
  | _ => none }
def fnPlantedManyRow : OpenClaim := { program := "ytoeblgfaemhbjaa", sum := "7783bc4c12e19fa6fe49c31afef0a41f199c87d03797f5d8a0306f453d976231", func := "loop.example/sundials/laws.FnPlantedMany", spec := "fnPlantedMany", unfollowed := true, recurses := true, apart := false }
def FnPlantedManySaid : Prop := fnPlantedManyRow.holds Try.pinned (OpenSpec.ofChange fnPlantedManySpec)

/-- ITS FALSE NEIGHBOUR: 'it returns false'. Refute it at one input. -/
def fnPlantedManyWrong : ChangeSpec := { name := "fnPlantedMany", fn := fun _ => fun
  | [d] => { results := [.lit (.bool false)], args := [d] }
  | _ => none }
def FnPlantedManyWrongFalsely : Prop := fnPlantedManyRow.holds Try.pinned (OpenSpec.ofChange fnPlantedManyWrong)

/-- 'laws.FnWaterRun': WHATEVER THE INPUT: true; the input reads as it did. -/
def fnWaterRunSpec : ChangeSpec := { name := "fnWaterRun", fn := fun _ => fun
  | [d] => { results := [.lit (.bool true)], args := [d] }
  | _ => none }
def fnWaterRunRow : OpenClaim := { program := "ytoeblgfaemhbjaa", sum := "7783bc4c12e19fa6fe49c31afef0a41f199c87d03797f5d8a0306f453d976231", func := "loop.example/sundials/laws.FnWaterRun", spec := "fnWaterRun", unfollowed := true, recurses := true, apart := false }
def FnWaterRunSaid : Prop := fnWaterRunRow.holds Try.pinned (OpenSpec.ofChange fnWaterRunSpec)

/-- ITS FALSE NEIGHBOUR: 'it returns false'. Refute it at one input. -/
def fnWaterRunWrong : ChangeSpec := { name := "fnWaterRun", fn := fun _ => fun
  | [d] => { results := [.lit (.bool false)], args := [d] }
  | _ => none }
def FnWaterRunWrongFalsely : Prop := fnWaterRunRow.holds Try.pinned (OpenSpec.ofChange fnWaterRunWrong)

/-- 'laws.FnWaterOk': WHATEVER THE INPUT: true; the input reads as it did. -/
def fnWaterOkSpec : ChangeSpec := { name := "fnWaterOk", fn := fun _ => fun
  | [d] => { results := [.lit (.bool true)], args := [d] }
  | _ => none }
def fnWaterOkRow : OpenClaim := { program := "ytoeblgfaemhbjaa", sum := "7783bc4c12e19fa6fe49c31afef0a41f199c87d03797f5d8a0306f453d976231", func := "loop.example/sundials/laws.FnWaterOk", spec := "fnWaterOk", unfollowed := true, recurses := true, apart := false }
def FnWaterOkSaid : Prop := fnWaterOkRow.holds Try.pinned (OpenSpec.ofChange fnWaterOkSpec)

/-- ITS FALSE NEIGHBOUR: 'it returns false'. Refute it at one input. -/
def fnWaterOkWrong : ChangeSpec := { name := "fnWaterOk", fn := fun _ => fun
  | [d] => { results := [.lit (.bool false)], args := [d] }
  | _ => none }
def FnWaterOkWrongFalsely : Prop := fnWaterOkRow.holds Try.pinned (OpenSpec.ofChange fnWaterOkWrong)

/-- 'laws.FnFriendsValid': WHATEVER THE INPUT: true; the input reads as it did. -/
def fnFriendsValidSpec : ChangeSpec := { name := "fnFriendsValid", fn := fun _ => fun
  | [d] => { results := [.lit (.bool true)], args := [d] }
  | _ => none }
def fnFriendsValidRow : OpenClaim := { program := "ytoeblgfaemhbjaa", sum := "7783bc4c12e19fa6fe49c31afef0a41f199c87d03797f5d8a0306f453d976231", func := "loop.example/sundials/laws.FnFriendsValid", spec := "fnFriendsValid", apart := false }
def FnFriendsValidSaid : Prop := fnFriendsValidRow.holds Try.pinned (OpenSpec.ofChange fnFriendsValidSpec)

/-- ITS FALSE NEIGHBOUR: 'it returns false'. Refute it at one input. -/
def fnFriendsValidWrong : ChangeSpec := { name := "fnFriendsValid", fn := fun _ => fun
  | [d] => { results := [.lit (.bool false)], args := [d] }
  | _ => none }
def FnFriendsValidWrongFalsely : Prop := fnFriendsValidRow.holds Try.pinned (OpenSpec.ofChange fnFriendsValidWrong)

/-- 'laws.FnLineOk': WHATEVER THE INPUT: true; the input reads as it did. -/
def fnLineOkSpec : ChangeSpec := { name := "fnLineOk", fn := fun _ => fun
  | [d] => { results := [.lit (.bool true)], args := [d] }
  | _ => none }
def fnLineOkRow : OpenClaim := { program := "ytoeblgfaemhbjaa", sum := "7783bc4c12e19fa6fe49c31afef0a41f199c87d03797f5d8a0306f453d976231", func := "loop.example/sundials/laws.FnLineOk", spec := "fnLineOk", apart := false }
def FnLineOkSaid : Prop := fnLineOkRow.holds Try.pinned (OpenSpec.ofChange fnLineOkSpec)

/-- ITS FALSE NEIGHBOUR: 'it returns false'. Refute it at one input. -/
def fnLineOkWrong : ChangeSpec := { name := "fnLineOk", fn := fun _ => fun
  | [d] => { results := [.lit (.bool false)], args := [d] }
  | _ => none }
def FnLineOkWrongFalsely : Prop := fnLineOkRow.holds Try.pinned (OpenSpec.ofChange fnLineOkWrong)

/-- 'laws.FnLinesMany': WHATEVER THE INPUT: true; the input reads as it did. -/
def fnLinesManySpec : ChangeSpec := { name := "fnLinesMany", fn := fun _ => fun
  | [d] => { results := [.lit (.bool true)], args := [d] }
  | _ => none }
def fnLinesManyRow : OpenClaim := { program := "ytoeblgfaemhbjaa", sum := "7783bc4c12e19fa6fe49c31afef0a41f199c87d03797f5d8a0306f453d976231", func := "loop.example/sundials/laws.FnLinesMany", spec := "fnLinesMany", apart := false }
def FnLinesManySaid : Prop := fnLinesManyRow.holds Try.pinned (OpenSpec.ofChange fnLinesManySpec)

/-- ITS FALSE NEIGHBOUR: 'it returns false'. Refute it at one input. -/
def fnLinesManyWrong : ChangeSpec := { name := "fnLinesMany", fn := fun _ => fun
  | [d] => { results := [.lit (.bool false)], args := [d] }
  | _ => none }
def FnLinesManyWrongFalsely : Prop := fnLinesManyRow.holds Try.pinned (OpenSpec.ofChange fnLinesManyWrong)

/-- 'laws.FnLineFirst': WHATEVER THE INPUT: true; the input reads as it did. -/
def fnLineFirstSpec : ChangeSpec := { name := "fnLineFirst", fn := fun _ => fun
  | [d] => { results := [.lit (.bool true)], args := [d] }
  | _ => none }
def fnLineFirstRow : OpenClaim := { program := "ytoeblgfaemhbjaa", sum := "7783bc4c12e19fa6fe49c31afef0a41f199c87d03797f5d8a0306f453d976231", func := "loop.example/sundials/laws.FnLineFirst", spec := "fnLineFirst", apart := false }
def FnLineFirstSaid : Prop := fnLineFirstRow.holds Try.pinned (OpenSpec.ofChange fnLineFirstSpec)

/-- ITS FALSE NEIGHBOUR: 'it returns false'. Refute it at one input. -/
def fnLineFirstWrong : ChangeSpec := { name := "fnLineFirst", fn := fun _ => fun
  | [d] => { results := [.lit (.bool false)], args := [d] }
  | _ => none }
def FnLineFirstWrongFalsely : Prop := fnLineFirstRow.holds Try.pinned (OpenSpec.ofChange fnLineFirstWrong)

/- THE SECOND FORM. 'bulk': how many values and letters a reading holds, each counted each time it is reached (what is shared counts as often as it is met; a slice's spare places count too). A statement '..UptoSaid' is the law's where the arguments, and the package variables that the reading takes, are together of bulk at most 1048576: NARROWER than '..Said'. Prove '..Said' where nothing that the law and all that it calls make is longer than what came in: it says more and counts as full. Else prove '..UptoSaid'. A law counts once. -/
mutual
def uptoBulk {H : Type} : DataW H → Nat
  | .lit (.string bytes) => bytes.length + 1
  | .lit _ => 1
  | .nil => 1
  | .ptr d => uptoBulk d + 1
  | .slice elems spare => uptoBulkAll elems + uptoBulkAll spare + 1
  | .agg parts => uptoBulkAll parts + 1
  | .iface _ d => uptoBulk d + 1
  | .map entries => uptoBulkEntries entries + 1
  | .held _ => 1
def uptoBulkAll {H : Type} : List (DataW H) → Nat
  | [] => 0
  | d :: r => uptoBulk d + uptoBulkAll r
def uptoBulkEntries {H : Type} : List (Lit × DataW H) → Nat
  | [] => 0
  | x :: r => uptoBulkEntry x + uptoBulkEntries r
def uptoBulkEntry {H : Type} : Lit × DataW H → Nat
  | (.string bytes, d) => bytes.length + uptoBulk d + 1
  | (_, d) => uptoBulk d + 1
 end
def uptoSmall : (H : Type) → List (DataW H) → Bool := fun _ ds => decide (uptoBulkAll ds ≤ 1048576)
def OpenSpec.upto (s : _root_.Go.ChangeSpec) : _root_.Go.OpenSpec := { _root_.Go.OpenSpec.ofChange s with cond := some uptoSmall }

/-- 'laws.FnBedsValid', WHERE WHAT IT READS IS OF BULK AT MOST 1048576: true; the input reads as it did. -/
def fnBedsValidUptoRow : OpenClaim := { program := "ytoeblgfaemhbjaa", sum := "7783bc4c12e19fa6fe49c31afef0a41f199c87d03797f5d8a0306f453d976231", func := "loop.example/sundials/laws.FnBedsValid", spec := "fnBedsValid", unfollowed := true, recurses := true, apart := false, narrowed := true }
def FnBedsValidUptoSaid : Prop := fnBedsValidUptoRow.holds Try.pinned (OpenSpec.upto fnBedsValidSpec)

/-- 'laws.FnPlantsValid', WHERE WHAT IT READS IS OF BULK AT MOST 1048576: true; the input reads as it did. -/
def fnPlantsValidUptoRow : OpenClaim := { program := "ytoeblgfaemhbjaa", sum := "7783bc4c12e19fa6fe49c31afef0a41f199c87d03797f5d8a0306f453d976231", func := "loop.example/sundials/laws.FnPlantsValid", spec := "fnPlantsValid", unfollowed := true, recurses := true, apart := false, narrowed := true }
def FnPlantsValidUptoSaid : Prop := fnPlantsValidUptoRow.holds Try.pinned (OpenSpec.upto fnPlantsValidSpec)

/-- 'laws.FnPlantedMany', WHERE WHAT IT READS IS OF BULK AT MOST 1048576: true; the input reads as it did. -/
def fnPlantedManyUptoRow : OpenClaim := { program := "ytoeblgfaemhbjaa", sum := "7783bc4c12e19fa6fe49c31afef0a41f199c87d03797f5d8a0306f453d976231", func := "loop.example/sundials/laws.FnPlantedMany", spec := "fnPlantedMany", unfollowed := true, recurses := true, apart := false, narrowed := true }
def FnPlantedManyUptoSaid : Prop := fnPlantedManyUptoRow.holds Try.pinned (OpenSpec.upto fnPlantedManySpec)

/-- 'laws.FnWaterRun', WHERE WHAT IT READS IS OF BULK AT MOST 1048576: true; the input reads as it did. -/
def fnWaterRunUptoRow : OpenClaim := { program := "ytoeblgfaemhbjaa", sum := "7783bc4c12e19fa6fe49c31afef0a41f199c87d03797f5d8a0306f453d976231", func := "loop.example/sundials/laws.FnWaterRun", spec := "fnWaterRun", unfollowed := true, recurses := true, apart := false, narrowed := true }
def FnWaterRunUptoSaid : Prop := fnWaterRunUptoRow.holds Try.pinned (OpenSpec.upto fnWaterRunSpec)

/-- 'laws.FnWaterOk', WHERE WHAT IT READS IS OF BULK AT MOST 1048576: true; the input reads as it did. -/
def fnWaterOkUptoRow : OpenClaim := { program := "ytoeblgfaemhbjaa", sum := "7783bc4c12e19fa6fe49c31afef0a41f199c87d03797f5d8a0306f453d976231", func := "loop.example/sundials/laws.FnWaterOk", spec := "fnWaterOk", unfollowed := true, recurses := true, apart := false, narrowed := true }
def FnWaterOkUptoSaid : Prop := fnWaterOkUptoRow.holds Try.pinned (OpenSpec.upto fnWaterOkSpec)

/-- 'laws.FnFriendsValid', WHERE WHAT IT READS IS OF BULK AT MOST 1048576: true; the input reads as it did. -/
def fnFriendsValidUptoRow : OpenClaim := { program := "ytoeblgfaemhbjaa", sum := "7783bc4c12e19fa6fe49c31afef0a41f199c87d03797f5d8a0306f453d976231", func := "loop.example/sundials/laws.FnFriendsValid", spec := "fnFriendsValid", apart := false, narrowed := true }
def FnFriendsValidUptoSaid : Prop := fnFriendsValidUptoRow.holds Try.pinned (OpenSpec.upto fnFriendsValidSpec)

/-- 'laws.FnLineOk', WHERE WHAT IT READS IS OF BULK AT MOST 1048576: true; the input reads as it did. -/
def fnLineOkUptoRow : OpenClaim := { program := "ytoeblgfaemhbjaa", sum := "7783bc4c12e19fa6fe49c31afef0a41f199c87d03797f5d8a0306f453d976231", func := "loop.example/sundials/laws.FnLineOk", spec := "fnLineOk", apart := false, narrowed := true }
def FnLineOkUptoSaid : Prop := fnLineOkUptoRow.holds Try.pinned (OpenSpec.upto fnLineOkSpec)

/-- 'laws.FnLinesMany', WHERE WHAT IT READS IS OF BULK AT MOST 1048576: true; the input reads as it did. -/
def fnLinesManyUptoRow : OpenClaim := { program := "ytoeblgfaemhbjaa", sum := "7783bc4c12e19fa6fe49c31afef0a41f199c87d03797f5d8a0306f453d976231", func := "loop.example/sundials/laws.FnLinesMany", spec := "fnLinesMany", apart := false, narrowed := true }
def FnLinesManyUptoSaid : Prop := fnLinesManyUptoRow.holds Try.pinned (OpenSpec.upto fnLinesManySpec)

/-- 'laws.FnLineFirst', WHERE WHAT IT READS IS OF BULK AT MOST 1048576: true; the input reads as it did. -/
def fnLineFirstUptoRow : OpenClaim := { program := "ytoeblgfaemhbjaa", sum := "7783bc4c12e19fa6fe49c31afef0a41f199c87d03797f5d8a0306f453d976231", func := "loop.example/sundials/laws.FnLineFirst", spec := "fnLineFirst", apart := false, narrowed := true }
def FnLineFirstUptoSaid : Prop := fnLineFirstUptoRow.holds Try.pinned (OpenSpec.upto fnLineFirstSpec)

end Rows
end Go.Proofs.Ytoeblgfaemhbjaa
