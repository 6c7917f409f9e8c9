/-
  No cell of these rows narrows 'for every input' (looked for: loops, veiled, ifaces, maps, wideKeys, modest, calm, conditions, laid).
  DERIVED. THE GIVEN ROWS OF THIS SEAT. 8 by the template 'for every input the law returns true; each argument reads behind the call as it read before'; 0 by the template 'total and deterministic' (their statements: YtgbelpkhfaajoaaTotals.lean).
  GIVEN WITH THE SEED: the statements are not yours to turn. If you find one false, say at which input.
  Laid BY PROGRAM, IN A SANDBOX (cutbox-rows.mjs): the forced cells as the released guide's own fill.sh prints them over the translation 9943347bf43570ca… (all of the seat's roots in one cut). By AI agents, Wed Nov 11 2026. No macro, syntax, notation, axiom, sorry.
-/
import Derived.Test.YtgbelpkhfaajoaaChecked
import GoSem.Claim
import GoSem.ClaimJoined
import GoSem.ClaimMapViews
import Derived.JoinedTies
import Derived.KernelRfl
namespace Go.Proofs.Ytgbelpkhfaajoaa
/- THE CELL 'sum', in the pinned program and in every row, IS THE sha256 OF THE DUMP (.gsa) THAT YtgbelpkhfaajoaaProg.lean LOADS. Nothing in Lean hashes anything: it is a label: what it is worth is what the hold of that sum in a sandbox is worth. -/
noncomputable def Try.pinned : Pinned := { name := "ytgbelpkhfaajoaa", sum := "9943347bf43570ca6f235b02adc27b1ee7236811627d88b33e4160d9ec3fe1a3", checked := Try.checked }
namespace Rows
def none {H : Type} : Left H := { results := [], args := [] }

/-- 'laws.FnExactHourValid': WHATEVER THE INPUT: true; the input reads as it did. -/
def fnExactHourValidSpec : ChangeSpec := { name := "fnExactHourValid", fn := fun _ => fun
  | [d] => { results := [.lit (.bool true)], args := [d] }
  | _ => none }
def fnExactHourValidRow : OpenClaim := { program := "ytgbelpkhfaajoaa", sum := "9943347bf43570ca6f235b02adc27b1ee7236811627d88b33e4160d9ec3fe1a3", func := "loop.example/sundials/laws.FnExactHourValid", spec := "fnExactHourValid", apart := false }
def FnExactHourValidSaid : Prop := fnExactHourValidRow.holds Try.pinned (OpenSpec.ofChange fnExactHourValidSpec)

/-- ITS FALSE NEIGHBOUR: 'it returns false'. Refute it at one input. -/
def fnExactHourValidWrong : ChangeSpec := { name := "fnExactHourValid", fn := fun _ => fun
  | [d] => { results := [.lit (.bool false)], args := [d] }
  | _ => none }
def FnExactHourValidWrongFalsely : Prop := fnExactHourValidRow.holds Try.pinned (OpenSpec.ofChange fnExactHourValidWrong)

/-- 'laws.FnExactLineOf': WHATEVER THE INPUT: true; the input reads as it did. -/
def fnExactLineOfSpec : ChangeSpec := { name := "fnExactLineOf", fn := fun _ => fun
  | [d1, d2] => { results := [.lit (.bool true)], args := [d1, d2] }
  | _ => none }
def fnExactLineOfRow : OpenClaim := { program := "ytgbelpkhfaajoaa", sum := "9943347bf43570ca6f235b02adc27b1ee7236811627d88b33e4160d9ec3fe1a3", func := "loop.example/sundials/laws.FnExactLineOf", spec := "fnExactLineOf", unfollowed := true, recurses := true, apart := false }
def FnExactLineOfSaid : Prop := fnExactLineOfRow.holds Try.pinned (OpenSpec.ofChange fnExactLineOfSpec)

/-- ITS FALSE NEIGHBOUR: 'it returns false'. Refute it at one input. -/
def fnExactLineOfWrong : ChangeSpec := { name := "fnExactLineOf", fn := fun _ => fun
  | [d1, d2] => { results := [.lit (.bool false)], args := [d1, d2] }
  | _ => none }
def FnExactLineOfWrongFalsely : Prop := fnExactLineOfRow.holds Try.pinned (OpenSpec.ofChange fnExactLineOfWrong)

/-- 'laws.FnExactWallOf': WHATEVER THE INPUT: true; the input reads as it did. -/
def fnExactWallOfSpec : ChangeSpec := { name := "fnExactWallOf", fn := fun _ => fun
  | [d1, d2] => { results := [.lit (.bool true)], args := [d1, d2] }
  | _ => none }
def fnExactWallOfRow : OpenClaim := { program := "ytgbelpkhfaajoaa", sum := "9943347bf43570ca6f235b02adc27b1ee7236811627d88b33e4160d9ec3fe1a3", func := "loop.example/sundials/laws.FnExactWallOf", spec := "fnExactWallOf", unfollowed := true, recurses := true, apart := false }
def FnExactWallOfSaid : Prop := fnExactWallOfRow.holds Try.pinned (OpenSpec.ofChange fnExactWallOfSpec)

/-- ITS FALSE NEIGHBOUR: 'it returns false'. Refute it at one input. -/
def fnExactWallOfWrong : ChangeSpec := { name := "fnExactWallOf", fn := fun _ => fun
  | [d1, d2] => { results := [.lit (.bool false)], args := [d1, d2] }
  | _ => none }
def FnExactWallOfWrongFalsely : Prop := fnExactWallOfRow.holds Try.pinned (OpenSpec.ofChange fnExactWallOfWrong)

/-- 'laws.FnExactLinesOf': WHATEVER THE INPUT: true; the input reads as it did. -/
def fnExactLinesOfSpec : ChangeSpec := { name := "fnExactLinesOf", fn := fun _ => fun
  | [d] => { results := [.lit (.bool true)], args := [d] }
  | _ => none }
def fnExactLinesOfRow : OpenClaim := { program := "ytgbelpkhfaajoaa", sum := "9943347bf43570ca6f235b02adc27b1ee7236811627d88b33e4160d9ec3fe1a3", func := "loop.example/sundials/laws.FnExactLinesOf", spec := "fnExactLinesOf", unfollowed := true, recurses := true, apart := false }
def FnExactLinesOfSaid : Prop := fnExactLinesOfRow.holds Try.pinned (OpenSpec.ofChange fnExactLinesOfSpec)

/-- ITS FALSE NEIGHBOUR: 'it returns false'. Refute it at one input. -/
def fnExactLinesOfWrong : ChangeSpec := { name := "fnExactLinesOf", fn := fun _ => fun
  | [d] => { results := [.lit (.bool false)], args := [d] }
  | _ => none }
def FnExactLinesOfWrongFalsely : Prop := fnExactLinesOfRow.holds Try.pinned (OpenSpec.ofChange fnExactLinesOfWrong)

/-- 'laws.FnExactHourOn': WHATEVER THE INPUT: true; the input reads as it did. -/
def fnExactHourOnSpec : ChangeSpec := { name := "fnExactHourOn", fn := fun _ => fun
  | [d1, d2] => { results := [.lit (.bool true)], args := [d1, d2] }
  | _ => none }
def fnExactHourOnRow : OpenClaim := { program := "ytgbelpkhfaajoaa", sum := "9943347bf43570ca6f235b02adc27b1ee7236811627d88b33e4160d9ec3fe1a3", func := "loop.example/sundials/laws.FnExactHourOn", spec := "fnExactHourOn", unfollowed := true, recurses := true, apart := false }
def FnExactHourOnSaid : Prop := fnExactHourOnRow.holds Try.pinned (OpenSpec.ofChange fnExactHourOnSpec)

/-- ITS FALSE NEIGHBOUR: 'it returns false'. Refute it at one input. -/
def fnExactHourOnWrong : ChangeSpec := { name := "fnExactHourOn", fn := fun _ => fun
  | [d1, d2] => { results := [.lit (.bool false)], args := [d1, d2] }
  | _ => none }
def FnExactHourOnWrongFalsely : Prop := fnExactHourOnRow.holds Try.pinned (OpenSpec.ofChange fnExactHourOnWrong)

/-- 'laws.FnExactHourBefore': WHATEVER THE INPUT: true; the input reads as it did. -/
def fnExactHourBeforeSpec : ChangeSpec := { name := "fnExactHourBefore", fn := fun _ => fun
  | [d1, d2] => { results := [.lit (.bool true)], args := [d1, d2] }
  | _ => none }
def fnExactHourBeforeRow : OpenClaim := { program := "ytgbelpkhfaajoaa", sum := "9943347bf43570ca6f235b02adc27b1ee7236811627d88b33e4160d9ec3fe1a3", func := "loop.example/sundials/laws.FnExactHourBefore", spec := "fnExactHourBefore", unfollowed := true, recurses := true, apart := false }
def FnExactHourBeforeSaid : Prop := fnExactHourBeforeRow.holds Try.pinned (OpenSpec.ofChange fnExactHourBeforeSpec)

/-- ITS FALSE NEIGHBOUR: 'it returns false'. Refute it at one input. -/
def fnExactHourBeforeWrong : ChangeSpec := { name := "fnExactHourBefore", fn := fun _ => fun
  | [d1, d2] => { results := [.lit (.bool false)], args := [d1, d2] }
  | _ => none }
def FnExactHourBeforeWrongFalsely : Prop := fnExactHourBeforeRow.holds Try.pinned (OpenSpec.ofChange fnExactHourBeforeWrong)

/-- 'laws.FnExactDialTurn': WHATEVER THE INPUT: true; the input reads as it did. -/
def fnExactDialTurnSpec : ChangeSpec := { name := "fnExactDialTurn", fn := fun _ => fun
  | [d] => { results := [.lit (.bool true)], args := [d] }
  | _ => none }
def fnExactDialTurnRow : OpenClaim := { program := "ytgbelpkhfaajoaa", sum := "9943347bf43570ca6f235b02adc27b1ee7236811627d88b33e4160d9ec3fe1a3", func := "loop.example/sundials/laws.FnExactDialTurn", spec := "fnExactDialTurn", apart := false }
def FnExactDialTurnSaid : Prop := fnExactDialTurnRow.holds Try.pinned (OpenSpec.ofChange fnExactDialTurnSpec)

/-- ITS FALSE NEIGHBOUR: 'it returns false'. Refute it at one input. -/
def fnExactDialTurnWrong : ChangeSpec := { name := "fnExactDialTurn", fn := fun _ => fun
  | [d] => { results := [.lit (.bool false)], args := [d] }
  | _ => none }
def FnExactDialTurnWrongFalsely : Prop := fnExactDialTurnRow.holds Try.pinned (OpenSpec.ofChange fnExactDialTurnWrong)

/-- 'laws.FnExactTextOk': WHATEVER THE INPUT: true; the input reads as it did. -/
def fnExactTextOkSpec : ChangeSpec := { name := "fnExactTextOk", fn := fun _ => fun
  | [d] => { results := [.lit (.bool true)], args := [d] }
  | _ => none }
def fnExactTextOkRow : OpenClaim := { program := "ytgbelpkhfaajoaa", sum := "9943347bf43570ca6f235b02adc27b1ee7236811627d88b33e4160d9ec3fe1a3", func := "loop.example/sundials/laws.FnExactTextOk", spec := "fnExactTextOk", apart := false }
def FnExactTextOkSaid : Prop := fnExactTextOkRow.holds Try.pinned (OpenSpec.ofChange fnExactTextOkSpec)

/-- ITS FALSE NEIGHBOUR: 'it returns false'. Refute it at one input. -/
def fnExactTextOkWrong : ChangeSpec := { name := "fnExactTextOk", fn := fun _ => fun
  | [d] => { results := [.lit (.bool false)], args := [d] }
  | _ => none }
def FnExactTextOkWrongFalsely : Prop := fnExactTextOkRow.holds Try.pinned (OpenSpec.ofChange fnExactTextOkWrong)

/- THE SECOND FORM. 'bulk': how many values and letters a reading holds, each counted each time it is reached (what is shared counts as often as it is met; a slice's spare places count too). A statement '..UptoSaid' is the law's where the arguments, and the package variables that the reading takes, are together of bulk at most 1048576: NARROWER than '..Said'. Prove '..Said' where nothing that the law and all that it calls make is longer than what came in: it says more and counts as full. Else prove '..UptoSaid'. A law counts once. -/
mutual
def uptoBulk {H : Type} : DataW H → Nat
  | .lit (.string bytes) => bytes.length + 1
  | .lit _ => 1
  | .nil => 1
  | .ptr d => uptoBulk d + 1
  | .slice elems spare => uptoBulkAll elems + uptoBulkAll spare + 1
  | .agg parts => uptoBulkAll parts + 1
  | .iface _ d => uptoBulk d + 1
  | .map entries => uptoBulkEntries entries + 1
  | .held _ => 1
def uptoBulkAll {H : Type} : List (DataW H) → Nat
  | [] => 0
  | d :: r => uptoBulk d + uptoBulkAll r
def uptoBulkEntries {H : Type} : List (Lit × DataW H) → Nat
  | [] => 0
  | x :: r => uptoBulkEntry x + uptoBulkEntries r
def uptoBulkEntry {H : Type} : Lit × DataW H → Nat
  | (.string bytes, d) => bytes.length + uptoBulk d + 1
  | (_, d) => uptoBulk d + 1
 end
def uptoSmall : (H : Type) → List (DataW H) → Bool := fun _ ds => decide (uptoBulkAll ds ≤ 1048576)
def OpenSpec.upto (s : _root_.Go.ChangeSpec) : _root_.Go.OpenSpec := { _root_.Go.OpenSpec.ofChange s with cond := some uptoSmall }

/-- 'laws.FnExactHourValid', WHERE WHAT IT READS IS OF BULK AT MOST 1048576: true; the input reads as it did. -/
def fnExactHourValidUptoRow : OpenClaim := { program := "ytgbelpkhfaajoaa", sum := "9943347bf43570ca6f235b02adc27b1ee7236811627d88b33e4160d9ec3fe1a3", func := "loop.example/sundials/laws.FnExactHourValid", spec := "fnExactHourValid", apart := false, narrowed := true }
def FnExactHourValidUptoSaid : Prop := fnExactHourValidUptoRow.holds Try.pinned (OpenSpec.upto fnExactHourValidSpec)

/-- 'laws.FnExactLineOf', WHERE WHAT IT READS IS OF BULK AT MOST 1048576: true; the input reads as it did. -/
def fnExactLineOfUptoRow : OpenClaim := { program := "ytgbelpkhfaajoaa", sum := "9943347bf43570ca6f235b02adc27b1ee7236811627d88b33e4160d9ec3fe1a3", func := "loop.example/sundials/laws.FnExactLineOf", spec := "fnExactLineOf", unfollowed := true, recurses := true, apart := false, narrowed := true }
def FnExactLineOfUptoSaid : Prop := fnExactLineOfUptoRow.holds Try.pinned (OpenSpec.upto fnExactLineOfSpec)

/-- 'laws.FnExactWallOf', WHERE WHAT IT READS IS OF BULK AT MOST 1048576: true; the input reads as it did. -/
def fnExactWallOfUptoRow : OpenClaim := { program := "ytgbelpkhfaajoaa", sum := "9943347bf43570ca6f235b02adc27b1ee7236811627d88b33e4160d9ec3fe1a3", func := "loop.example/sundials/laws.FnExactWallOf", spec := "fnExactWallOf", unfollowed := true, recurses := true, apart := false, narrowed := true }
def FnExactWallOfUptoSaid : Prop := fnExactWallOfUptoRow.holds Try.pinned (OpenSpec.upto fnExactWallOfSpec)

/-- 'laws.FnExactLinesOf', WHERE WHAT IT READS IS OF BULK AT MOST 1048576: true; the input reads as it did. -/
def fnExactLinesOfUptoRow : OpenClaim := { program := "ytgbelpkhfaajoaa", sum := "9943347bf43570ca6f235b02adc27b1ee7236811627d88b33e4160d9ec3fe1a3", func := "loop.example/sundials/laws.FnExactLinesOf", spec := "fnExactLinesOf", unfollowed := true, recurses := true, apart := false, narrowed := true }
def FnExactLinesOfUptoSaid : Prop := fnExactLinesOfUptoRow.holds Try.pinned (OpenSpec.upto fnExactLinesOfSpec)

/-- 'laws.FnExactHourOn', WHERE WHAT IT READS IS OF BULK AT MOST 1048576: true; the input reads as it did. -/
def fnExactHourOnUptoRow : OpenClaim := { program := "ytgbelpkhfaajoaa", sum := "9943347bf43570ca6f235b02adc27b1ee7236811627d88b33e4160d9ec3fe1a3", func := "loop.example/sundials/laws.FnExactHourOn", spec := "fnExactHourOn", unfollowed := true, recurses := true, apart := false, narrowed := true }
def FnExactHourOnUptoSaid : Prop := fnExactHourOnUptoRow.holds Try.pinned (OpenSpec.upto fnExactHourOnSpec)

/-- 'laws.FnExactHourBefore', WHERE WHAT IT READS IS OF BULK AT MOST 1048576: true; the input reads as it did. -/
def fnExactHourBeforeUptoRow : OpenClaim := { program := "ytgbelpkhfaajoaa", sum := "9943347bf43570ca6f235b02adc27b1ee7236811627d88b33e4160d9ec3fe1a3", func := "loop.example/sundials/laws.FnExactHourBefore", spec := "fnExactHourBefore", unfollowed := true, recurses := true, apart := false, narrowed := true }
def FnExactHourBeforeUptoSaid : Prop := fnExactHourBeforeUptoRow.holds Try.pinned (OpenSpec.upto fnExactHourBeforeSpec)

/-- 'laws.FnExactDialTurn', WHERE WHAT IT READS IS OF BULK AT MOST 1048576: true; the input reads as it did. -/
def fnExactDialTurnUptoRow : OpenClaim := { program := "ytgbelpkhfaajoaa", sum := "9943347bf43570ca6f235b02adc27b1ee7236811627d88b33e4160d9ec3fe1a3", func := "loop.example/sundials/laws.FnExactDialTurn", spec := "fnExactDialTurn", apart := false, narrowed := true }
def FnExactDialTurnUptoSaid : Prop := fnExactDialTurnUptoRow.holds Try.pinned (OpenSpec.upto fnExactDialTurnSpec)

/-- 'laws.FnExactTextOk', WHERE WHAT IT READS IS OF BULK AT MOST 1048576: true; the input reads as it did. -/
def fnExactTextOkUptoRow : OpenClaim := { program := "ytgbelpkhfaajoaa", sum := "9943347bf43570ca6f235b02adc27b1ee7236811627d88b33e4160d9ec3fe1a3", func := "loop.example/sundials/laws.FnExactTextOk", spec := "fnExactTextOk", apart := false, narrowed := true }
def FnExactTextOkUptoSaid : Prop := fnExactTextOkUptoRow.holds Try.pinned (OpenSpec.upto fnExactTextOkSpec)

end Rows
end Go.Proofs.Ytgbelpkhfaajoaa
