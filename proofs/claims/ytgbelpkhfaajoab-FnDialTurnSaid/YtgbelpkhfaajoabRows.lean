/-
  No cell of these rows narrows 'for every input' (looked for: loops, veiled, ifaces, maps, wideKeys, modest, calm, conditions, laid).
  DERIVED. THE GIVEN ROWS OF THIS SEAT. 8 by the template 'for every input the law returns true; each argument reads behind the call as it read before'; 0 by the template 'total and deterministic' (their statements: YtgbelpkhfaajoabTotals.lean).
  GIVEN WITH THE SEED: the statements are not yours to turn. If you find one false, say at which input.
  Laid BY PROGRAM, IN A SANDBOX (cutbox-rows.mjs): the forced cells as the released guide's own fill.sh prints them over the translation 7a83855978450c8a… (all of the seat's roots in one cut). By AI agents, Wed Nov 11 2026. No macro, syntax, notation, axiom, sorry.
-/
import Derived.Test.YtgbelpkhfaajoabChecked
import GoSem.Claim
import GoSem.ClaimJoined
import GoSem.ClaimMapViews
import Derived.JoinedTies
import Derived.KernelRfl
namespace Go.Proofs.Ytgbelpkhfaajoab
/- THE CELL 'sum', in the pinned program and in every row, IS THE sha256 OF THE DUMP (.gsa) THAT YtgbelpkhfaajoabProg.lean LOADS. Nothing in Lean hashes anything: it is a label: what it is worth is what the hold of that sum in a sandbox is worth. -/
noncomputable def Try.pinned : Pinned := { name := "ytgbelpkhfaajoab", sum := "7a83855978450c8a8dbee1b1edc09bb79a81847659986446117dc5cf7c7a3ecf", checked := Try.checked }
namespace Rows
def none {H : Type} : Left H := { results := [], args := [] }

/-- 'laws.FnHourValid': WHATEVER THE INPUT: true; the input reads as it did. -/
def fnHourValidSpec : ChangeSpec := { name := "fnHourValid", fn := fun _ => fun
  | [d] => { results := [.lit (.bool true)], args := [d] }
  | _ => none }
def fnHourValidRow : OpenClaim := { program := "ytgbelpkhfaajoab", sum := "7a83855978450c8a8dbee1b1edc09bb79a81847659986446117dc5cf7c7a3ecf", func := "loop.example/sundials/laws.FnHourValid", spec := "fnHourValid", apart := false }
def FnHourValidSaid : Prop := fnHourValidRow.holds Try.pinned (OpenSpec.ofChange fnHourValidSpec)

/-- ITS FALSE NEIGHBOUR: 'it returns false'. Refute it at one input. -/
def fnHourValidWrong : ChangeSpec := { name := "fnHourValid", fn := fun _ => fun
  | [d] => { results := [.lit (.bool false)], args := [d] }
  | _ => none }
def FnHourValidWrongFalsely : Prop := fnHourValidRow.holds Try.pinned (OpenSpec.ofChange fnHourValidWrong)

/-- 'laws.FnLineOf': WHATEVER THE INPUT: true; the input reads as it did. -/
def fnLineOfSpec : ChangeSpec := { name := "fnLineOf", fn := fun _ => fun
  | [d] => { results := [.lit (.bool true)], args := [d] }
  | _ => none }
def fnLineOfRow : OpenClaim := { program := "ytgbelpkhfaajoab", sum := "7a83855978450c8a8dbee1b1edc09bb79a81847659986446117dc5cf7c7a3ecf", func := "loop.example/sundials/laws.FnLineOf", spec := "fnLineOf", unfollowed := true, recurses := true, apart := false }
def FnLineOfSaid : Prop := fnLineOfRow.holds Try.pinned (OpenSpec.ofChange fnLineOfSpec)

/-- ITS FALSE NEIGHBOUR: 'it returns false'. Refute it at one input. -/
def fnLineOfWrong : ChangeSpec := { name := "fnLineOf", fn := fun _ => fun
  | [d] => { results := [.lit (.bool false)], args := [d] }
  | _ => none }
def FnLineOfWrongFalsely : Prop := fnLineOfRow.holds Try.pinned (OpenSpec.ofChange fnLineOfWrong)

/-- 'laws.FnWallOf': WHATEVER THE INPUT: true; the input reads as it did. -/
def fnWallOfSpec : ChangeSpec := { name := "fnWallOf", fn := fun _ => fun
  | [d] => { results := [.lit (.bool true)], args := [d] }
  | _ => none }
def fnWallOfRow : OpenClaim := { program := "ytgbelpkhfaajoab", sum := "7a83855978450c8a8dbee1b1edc09bb79a81847659986446117dc5cf7c7a3ecf", func := "loop.example/sundials/laws.FnWallOf", spec := "fnWallOf", unfollowed := true, recurses := true, apart := false }
def FnWallOfSaid : Prop := fnWallOfRow.holds Try.pinned (OpenSpec.ofChange fnWallOfSpec)

/-- ITS FALSE NEIGHBOUR: 'it returns false'. Refute it at one input. -/
def fnWallOfWrong : ChangeSpec := { name := "fnWallOf", fn := fun _ => fun
  | [d] => { results := [.lit (.bool false)], args := [d] }
  | _ => none }
def FnWallOfWrongFalsely : Prop := fnWallOfRow.holds Try.pinned (OpenSpec.ofChange fnWallOfWrong)

/-- 'laws.FnLinesOf': WHATEVER THE INPUT: true; the input reads as it did. -/
def fnLinesOfSpec : ChangeSpec := { name := "fnLinesOf", fn := fun _ => fun
  | [d] => { results := [.lit (.bool true)], args := [d] }
  | _ => none }
def fnLinesOfRow : OpenClaim := { program := "ytgbelpkhfaajoab", sum := "7a83855978450c8a8dbee1b1edc09bb79a81847659986446117dc5cf7c7a3ecf", func := "loop.example/sundials/laws.FnLinesOf", spec := "fnLinesOf", unfollowed := true, recurses := true, apart := false }
def FnLinesOfSaid : Prop := fnLinesOfRow.holds Try.pinned (OpenSpec.ofChange fnLinesOfSpec)

/-- ITS FALSE NEIGHBOUR: 'it returns false'. Refute it at one input. -/
def fnLinesOfWrong : ChangeSpec := { name := "fnLinesOf", fn := fun _ => fun
  | [d] => { results := [.lit (.bool false)], args := [d] }
  | _ => none }
def FnLinesOfWrongFalsely : Prop := fnLinesOfRow.holds Try.pinned (OpenSpec.ofChange fnLinesOfWrong)

/-- 'laws.FnHourOn': WHATEVER THE INPUT: true; the input reads as it did. -/
def fnHourOnSpec : ChangeSpec := { name := "fnHourOn", fn := fun _ => fun
  | [d] => { results := [.lit (.bool true)], args := [d] }
  | _ => none }
def fnHourOnRow : OpenClaim := { program := "ytgbelpkhfaajoab", sum := "7a83855978450c8a8dbee1b1edc09bb79a81847659986446117dc5cf7c7a3ecf", func := "loop.example/sundials/laws.FnHourOn", spec := "fnHourOn", unfollowed := true, recurses := true, apart := false }
def FnHourOnSaid : Prop := fnHourOnRow.holds Try.pinned (OpenSpec.ofChange fnHourOnSpec)

/-- ITS FALSE NEIGHBOUR: 'it returns false'. Refute it at one input. -/
def fnHourOnWrong : ChangeSpec := { name := "fnHourOn", fn := fun _ => fun
  | [d] => { results := [.lit (.bool false)], args := [d] }
  | _ => none }
def FnHourOnWrongFalsely : Prop := fnHourOnRow.holds Try.pinned (OpenSpec.ofChange fnHourOnWrong)

/-- 'laws.FnHourBefore': WHATEVER THE INPUT: true; the input reads as it did. -/
def fnHourBeforeSpec : ChangeSpec := { name := "fnHourBefore", fn := fun _ => fun
  | [d] => { results := [.lit (.bool true)], args := [d] }
  | _ => none }
def fnHourBeforeRow : OpenClaim := { program := "ytgbelpkhfaajoab", sum := "7a83855978450c8a8dbee1b1edc09bb79a81847659986446117dc5cf7c7a3ecf", func := "loop.example/sundials/laws.FnHourBefore", spec := "fnHourBefore", unfollowed := true, recurses := true, apart := false }
def FnHourBeforeSaid : Prop := fnHourBeforeRow.holds Try.pinned (OpenSpec.ofChange fnHourBeforeSpec)

/-- ITS FALSE NEIGHBOUR: 'it returns false'. Refute it at one input. -/
def fnHourBeforeWrong : ChangeSpec := { name := "fnHourBefore", fn := fun _ => fun
  | [d] => { results := [.lit (.bool false)], args := [d] }
  | _ => none }
def FnHourBeforeWrongFalsely : Prop := fnHourBeforeRow.holds Try.pinned (OpenSpec.ofChange fnHourBeforeWrong)

/-- 'laws.FnDialTurn': WHATEVER THE INPUT: true; the input reads as it did. -/
def fnDialTurnSpec : ChangeSpec := { name := "fnDialTurn", fn := fun _ => fun
  | [d] => { results := [.lit (.bool true)], args := [d] }
  | _ => none }
def fnDialTurnRow : OpenClaim := { program := "ytgbelpkhfaajoab", sum := "7a83855978450c8a8dbee1b1edc09bb79a81847659986446117dc5cf7c7a3ecf", func := "loop.example/sundials/laws.FnDialTurn", spec := "fnDialTurn", apart := false }
def FnDialTurnSaid : Prop := fnDialTurnRow.holds Try.pinned (OpenSpec.ofChange fnDialTurnSpec)

/-- ITS FALSE NEIGHBOUR: 'it returns false'. Refute it at one input. -/
def fnDialTurnWrong : ChangeSpec := { name := "fnDialTurn", fn := fun _ => fun
  | [d] => { results := [.lit (.bool false)], args := [d] }
  | _ => none }
def FnDialTurnWrongFalsely : Prop := fnDialTurnRow.holds Try.pinned (OpenSpec.ofChange fnDialTurnWrong)

/-- 'laws.FnTextOk': WHATEVER THE INPUT: true; the input reads as it did. -/
def fnTextOkSpec : ChangeSpec := { name := "fnTextOk", fn := fun _ => fun
  | [d] => { results := [.lit (.bool true)], args := [d] }
  | _ => none }
def fnTextOkRow : OpenClaim := { program := "ytgbelpkhfaajoab", sum := "7a83855978450c8a8dbee1b1edc09bb79a81847659986446117dc5cf7c7a3ecf", func := "loop.example/sundials/laws.FnTextOk", spec := "fnTextOk", apart := false }
def FnTextOkSaid : Prop := fnTextOkRow.holds Try.pinned (OpenSpec.ofChange fnTextOkSpec)

/-- ITS FALSE NEIGHBOUR: 'it returns false'. Refute it at one input. -/
def fnTextOkWrong : ChangeSpec := { name := "fnTextOk", fn := fun _ => fun
  | [d] => { results := [.lit (.bool false)], args := [d] }
  | _ => none }
def FnTextOkWrongFalsely : Prop := fnTextOkRow.holds Try.pinned (OpenSpec.ofChange fnTextOkWrong)

/- THE SECOND FORM. 'bulk': how many values and letters a reading holds, each counted each time it is reached (what is shared counts as often as it is met; a slice's spare places count too). A statement '..UptoSaid' is the law's where the arguments, and the package variables that the reading takes, are together of bulk at most 1048576: NARROWER than '..Said'. Prove '..Said' where nothing that the law and all that it calls make is longer than what came in: it says more and counts as full. Else prove '..UptoSaid'. A law counts once. -/
mutual
def uptoBulk {H : Type} : DataW H → Nat
  | .lit (.string bytes) => bytes.length + 1
  | .lit _ => 1
  | .nil => 1
  | .ptr d => uptoBulk d + 1
  | .slice elems spare => uptoBulkAll elems + uptoBulkAll spare + 1
  | .agg parts => uptoBulkAll parts + 1
  | .iface _ d => uptoBulk d + 1
  | .map entries => uptoBulkEntries entries + 1
  | .held _ => 1
def uptoBulkAll {H : Type} : List (DataW H) → Nat
  | [] => 0
  | d :: r => uptoBulk d + uptoBulkAll r
def uptoBulkEntries {H : Type} : List (Lit × DataW H) → Nat
  | [] => 0
  | x :: r => uptoBulkEntry x + uptoBulkEntries r
def uptoBulkEntry {H : Type} : Lit × DataW H → Nat
  | (.string bytes, d) => bytes.length + uptoBulk d + 1
  | (_, d) => uptoBulk d + 1
 end
def uptoSmall : (H : Type) → List (DataW H) → Bool := fun _ ds => decide (uptoBulkAll ds ≤ 1048576)
def OpenSpec.upto (s : _root_.Go.ChangeSpec) : _root_.Go.OpenSpec := { _root_.Go.OpenSpec.ofChange s with cond := some uptoSmall }

/-- 'laws.FnHourValid', WHERE WHAT IT READS IS OF BULK AT MOST 1048576: true; the input reads as it did. -/
def fnHourValidUptoRow : OpenClaim := { program := "ytgbelpkhfaajoab", sum := "7a83855978450c8a8dbee1b1edc09bb79a81847659986446117dc5cf7c7a3ecf", func := "loop.example/sundials/laws.FnHourValid", spec := "fnHourValid", apart := false, narrowed := true }
def FnHourValidUptoSaid : Prop := fnHourValidUptoRow.holds Try.pinned (OpenSpec.upto fnHourValidSpec)

/-- 'laws.FnLineOf', WHERE WHAT IT READS IS OF BULK AT MOST 1048576: true; the input reads as it did. -/
def fnLineOfUptoRow : OpenClaim := { program := "ytgbelpkhfaajoab", sum := "7a83855978450c8a8dbee1b1edc09bb79a81847659986446117dc5cf7c7a3ecf", func := "loop.example/sundials/laws.FnLineOf", spec := "fnLineOf", unfollowed := true, recurses := true, apart := false, narrowed := true }
def FnLineOfUptoSaid : Prop := fnLineOfUptoRow.holds Try.pinned (OpenSpec.upto fnLineOfSpec)

/-- 'laws.FnWallOf', WHERE WHAT IT READS IS OF BULK AT MOST 1048576: true; the input reads as it did. -/
def fnWallOfUptoRow : OpenClaim := { program := "ytgbelpkhfaajoab", sum := "7a83855978450c8a8dbee1b1edc09bb79a81847659986446117dc5cf7c7a3ecf", func := "loop.example/sundials/laws.FnWallOf", spec := "fnWallOf", unfollowed := true, recurses := true, apart := false, narrowed := true }
def FnWallOfUptoSaid : Prop := fnWallOfUptoRow.holds Try.pinned (OpenSpec.upto fnWallOfSpec)

/-- 'laws.FnLinesOf', WHERE WHAT IT READS IS OF BULK AT MOST 1048576: true; the input reads as it did. -/
def fnLinesOfUptoRow : OpenClaim := { program := "ytgbelpkhfaajoab", sum := "7a83855978450c8a8dbee1b1edc09bb79a81847659986446117dc5cf7c7a3ecf", func := "loop.example/sundials/laws.FnLinesOf", spec := "fnLinesOf", unfollowed := true, recurses := true, apart := false, narrowed := true }
def FnLinesOfUptoSaid : Prop := fnLinesOfUptoRow.holds Try.pinned (OpenSpec.upto fnLinesOfSpec)

/-- 'laws.FnHourOn', WHERE WHAT IT READS IS OF BULK AT MOST 1048576: true; the input reads as it did. -/
def fnHourOnUptoRow : OpenClaim := { program := "ytgbelpkhfaajoab", sum := "7a83855978450c8a8dbee1b1edc09bb79a81847659986446117dc5cf7c7a3ecf", func := "loop.example/sundials/laws.FnHourOn", spec := "fnHourOn", unfollowed := true, recurses := true, apart := false, narrowed := true }
def FnHourOnUptoSaid : Prop := fnHourOnUptoRow.holds Try.pinned (OpenSpec.upto fnHourOnSpec)

/-- 'laws.FnHourBefore', WHERE WHAT IT READS IS OF BULK AT MOST 1048576: true; the input reads as it did. -/
def fnHourBeforeUptoRow : OpenClaim := { program := "ytgbelpkhfaajoab", sum := "7a83855978450c8a8dbee1b1edc09bb79a81847659986446117dc5cf7c7a3ecf", func := "loop.example/sundials/laws.FnHourBefore", spec := "fnHourBefore", unfollowed := true, recurses := true, apart := false, narrowed := true }
def FnHourBeforeUptoSaid : Prop := fnHourBeforeUptoRow.holds Try.pinned (OpenSpec.upto fnHourBeforeSpec)

/-- 'laws.FnDialTurn', WHERE WHAT IT READS IS OF BULK AT MOST 1048576: true; the input reads as it did. -/
def fnDialTurnUptoRow : OpenClaim := { program := "ytgbelpkhfaajoab", sum := "7a83855978450c8a8dbee1b1edc09bb79a81847659986446117dc5cf7c7a3ecf", func := "loop.example/sundials/laws.FnDialTurn", spec := "fnDialTurn", apart := false, narrowed := true }
def FnDialTurnUptoSaid : Prop := fnDialTurnUptoRow.holds Try.pinned (OpenSpec.upto fnDialTurnSpec)

/-- 'laws.FnTextOk', WHERE WHAT IT READS IS OF BULK AT MOST 1048576: true; the input reads as it did. -/
def fnTextOkUptoRow : OpenClaim := { program := "ytgbelpkhfaajoab", sum := "7a83855978450c8a8dbee1b1edc09bb79a81847659986446117dc5cf7c7a3ecf", func := "loop.example/sundials/laws.FnTextOk", spec := "fnTextOk", apart := false, narrowed := true }
def FnTextOkUptoSaid : Prop := fnTextOkUptoRow.holds Try.pinned (OpenSpec.upto fnTextOkSpec)

end Rows
end Go.Proofs.Ytgbelpkhfaajoab
