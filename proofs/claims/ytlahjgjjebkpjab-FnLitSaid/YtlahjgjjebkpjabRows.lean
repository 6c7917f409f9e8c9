/-
  No cell of these rows narrows 'for every input' (looked for: loops, veiled, ifaces, maps, wideKeys, modest, calm, conditions, laid).
  DERIVED. THE GIVEN ROWS OF THIS SEAT. 8 by the template 'for every input the law returns true; each argument reads behind the call as it read before'; 0 by the template 'total and deterministic' (their statements: YtlahjgjjebkpjabTotals.lean).
  GIVEN WITH THE SEED: the statements are not yours to turn. If you find one false, say at which input.
  Laid BY PROGRAM, IN A SANDBOX (cutbox-rows.mjs): the forced cells as the released guide's own fill.sh prints them over the translation 5d02e42c648ab2c7… (all of the seat's roots in one cut). By AI agents, Wed Nov 11 2026. No macro, syntax, notation, axiom, sorry.
-/
import Derived.Test.YtlahjgjjebkpjabChecked
import GoSem.Claim
import GoSem.ClaimJoined
import GoSem.ClaimMapViews
import Derived.JoinedTies
import Derived.KernelRfl
namespace Go.Proofs.Ytlahjgjjebkpjab
/- THE CELL 'sum', in the pinned program and in every row, IS THE sha256 OF THE DUMP (.gsa) THAT YtlahjgjjebkpjabProg.lean LOADS. Nothing in Lean hashes anything: it is a label: what it is worth is what the hold of that sum in a sandbox is worth. -/
noncomputable def Try.pinned : Pinned := { name := "ytlahjgjjebkpjab", sum := "5d02e42c648ab2c74fa5f809c8e915fe64940b993f9af16e458a32490d917198", checked := Try.checked }
namespace Rows
def none {H : Type} : Left H := { results := [], args := [] }

/-- 'laws.FnInShadow': WHATEVER THE INPUT: true; the input reads as it did. -/
def fnInShadowSpec : ChangeSpec := { name := "fnInShadow", fn := fun _ => fun
  | [d] => { results := [.lit (.bool true)], args := [d] }
  | _ => none }
def fnInShadowRow : OpenClaim := { program := "ytlahjgjjebkpjab", sum := "5d02e42c648ab2c74fa5f809c8e915fe64940b993f9af16e458a32490d917198", func := "loop.example/sundials/laws.FnInShadow", spec := "fnInShadow", unfollowed := true, recurses := true, apart := false }
def FnInShadowSaid : Prop := fnInShadowRow.holds Try.pinned (OpenSpec.ofChange fnInShadowSpec)

/-- ITS FALSE NEIGHBOUR: 'it returns false'. Refute it at one input. -/
def fnInShadowWrong : ChangeSpec := { name := "fnInShadow", fn := fun _ => fun
  | [d] => { results := [.lit (.bool false)], args := [d] }
  | _ => none }
def FnInShadowWrongFalsely : Prop := fnInShadowRow.holds Try.pinned (OpenSpec.ofChange fnInShadowWrong)

/-- 'laws.FnCasts': WHATEVER THE INPUT: true; the input reads as it did. -/
def fnCastsSpec : ChangeSpec := { name := "fnCasts", fn := fun _ => fun
  | [d] => { results := [.lit (.bool true)], args := [d] }
  | _ => none }
def fnCastsRow : OpenClaim := { program := "ytlahjgjjebkpjab", sum := "5d02e42c648ab2c74fa5f809c8e915fe64940b993f9af16e458a32490d917198", func := "loop.example/sundials/laws.FnCasts", spec := "fnCasts", unfollowed := true, recurses := true, apart := false }
def FnCastsSaid : Prop := fnCastsRow.holds Try.pinned (OpenSpec.ofChange fnCastsSpec)

/-- ITS FALSE NEIGHBOUR: 'it returns false'. Refute it at one input. -/
def fnCastsWrong : ChangeSpec := { name := "fnCasts", fn := fun _ => fun
  | [d] => { results := [.lit (.bool false)], args := [d] }
  | _ => none }
def FnCastsWrongFalsely : Prop := fnCastsRow.holds Try.pinned (OpenSpec.ofChange fnCastsWrong)

/-- 'laws.FnLowestUp': WHATEVER THE INPUT: true; the input reads as it did. -/
def fnLowestUpSpec : ChangeSpec := { name := "fnLowestUp", fn := fun _ => fun
  | [d] => { results := [.lit (.bool true)], args := [d] }
  | _ => none }
def fnLowestUpRow : OpenClaim := { program := "ytlahjgjjebkpjab", sum := "5d02e42c648ab2c74fa5f809c8e915fe64940b993f9af16e458a32490d917198", func := "loop.example/sundials/laws.FnLowestUp", spec := "fnLowestUp", unfollowed := true, recurses := true, apart := false }
def FnLowestUpSaid : Prop := fnLowestUpRow.holds Try.pinned (OpenSpec.ofChange fnLowestUpSpec)

/-- ITS FALSE NEIGHBOUR: 'it returns false'. Refute it at one input. -/
def fnLowestUpWrong : ChangeSpec := { name := "fnLowestUp", fn := fun _ => fun
  | [d] => { results := [.lit (.bool false)], args := [d] }
  | _ => none }
def FnLowestUpWrongFalsely : Prop := fnLowestUpRow.holds Try.pinned (OpenSpec.ofChange fnLowestUpWrong)

/-- 'laws.FnHeightFor': WHATEVER THE INPUT: true; the input reads as it did. -/
def fnHeightForSpec : ChangeSpec := { name := "fnHeightFor", fn := fun _ => fun
  | [d] => { results := [.lit (.bool true)], args := [d] }
  | _ => none }
def fnHeightForRow : OpenClaim := { program := "ytlahjgjjebkpjab", sum := "5d02e42c648ab2c74fa5f809c8e915fe64940b993f9af16e458a32490d917198", func := "loop.example/sundials/laws.FnHeightFor", spec := "fnHeightFor", unfollowed := true, recurses := true, apart := false }
def FnHeightForSaid : Prop := fnHeightForRow.holds Try.pinned (OpenSpec.ofChange fnHeightForSpec)

/-- ITS FALSE NEIGHBOUR: 'it returns false'. Refute it at one input. -/
def fnHeightForWrong : ChangeSpec := { name := "fnHeightFor", fn := fun _ => fun
  | [d] => { results := [.lit (.bool false)], args := [d] }
  | _ => none }
def FnHeightForWrongFalsely : Prop := fnHeightForRow.holds Try.pinned (OpenSpec.ofChange fnHeightForWrong)

/-- 'laws.FnBlocksValid': WHATEVER THE INPUT: true; the input reads as it did. -/
def fnBlocksValidSpec : ChangeSpec := { name := "fnBlocksValid", fn := fun _ => fun
  | [d] => { results := [.lit (.bool true)], args := [d] }
  | _ => none }
def fnBlocksValidRow : OpenClaim := { program := "ytlahjgjjebkpjab", sum := "5d02e42c648ab2c74fa5f809c8e915fe64940b993f9af16e458a32490d917198", func := "loop.example/sundials/laws.FnBlocksValid", spec := "fnBlocksValid", unfollowed := true, recurses := true, apart := false }
def FnBlocksValidSaid : Prop := fnBlocksValidRow.holds Try.pinned (OpenSpec.ofChange fnBlocksValidSpec)

/-- ITS FALSE NEIGHBOUR: 'it returns false'. Refute it at one input. -/
def fnBlocksValidWrong : ChangeSpec := { name := "fnBlocksValid", fn := fun _ => fun
  | [d] => { results := [.lit (.bool false)], args := [d] }
  | _ => none }
def FnBlocksValidWrongFalsely : Prop := fnBlocksValidRow.holds Try.pinned (OpenSpec.ofChange fnBlocksValidWrong)

/-- 'laws.FnLit': WHATEVER THE INPUT: true; the input reads as it did. -/
def fnLitSpec : ChangeSpec := { name := "fnLit", fn := fun _ => fun
  | [d] => { results := [.lit (.bool true)], args := [d] }
  | _ => none }
def fnLitRow : OpenClaim := { program := "ytlahjgjjebkpjab", sum := "5d02e42c648ab2c74fa5f809c8e915fe64940b993f9af16e458a32490d917198", func := "loop.example/sundials/laws.FnLit", spec := "fnLit", unfollowed := true, recurses := true, apart := false }
def FnLitSaid : Prop := fnLitRow.holds Try.pinned (OpenSpec.ofChange fnLitSpec)

/-- ITS FALSE NEIGHBOUR: 'it returns false'. Refute it at one input. -/
def fnLitWrong : ChangeSpec := { name := "fnLit", fn := fun _ => fun
  | [d] => { results := [.lit (.bool false)], args := [d] }
  | _ => none }
def FnLitWrongFalsely : Prop := fnLitRow.holds Try.pinned (OpenSpec.ofChange fnLitWrong)

/-- 'laws.FnRaysLit': WHATEVER THE INPUT: true; the input reads as it did. -/
def fnRaysLitSpec : ChangeSpec := { name := "fnRaysLit", fn := fun _ => fun
  | [d] => { results := [.lit (.bool true)], args := [d] }
  | _ => none }
def fnRaysLitRow : OpenClaim := { program := "ytlahjgjjebkpjab", sum := "5d02e42c648ab2c74fa5f809c8e915fe64940b993f9af16e458a32490d917198", func := "loop.example/sundials/laws.FnRaysLit", spec := "fnRaysLit", unfollowed := true, recurses := true, apart := false }
def FnRaysLitSaid : Prop := fnRaysLitRow.holds Try.pinned (OpenSpec.ofChange fnRaysLitSpec)

/-- ITS FALSE NEIGHBOUR: 'it returns false'. Refute it at one input. -/
def fnRaysLitWrong : ChangeSpec := { name := "fnRaysLit", fn := fun _ => fun
  | [d] => { results := [.lit (.bool false)], args := [d] }
  | _ => none }
def FnRaysLitWrongFalsely : Prop := fnRaysLitRow.holds Try.pinned (OpenSpec.ofChange fnRaysLitWrong)

/-- 'laws.FnCornersOf': WHATEVER THE INPUT: true; the input reads as it did. -/
def fnCornersOfSpec : ChangeSpec := { name := "fnCornersOf", fn := fun _ => fun
  | [d] => { results := [.lit (.bool true)], args := [d] }
  | _ => none }
def fnCornersOfRow : OpenClaim := { program := "ytlahjgjjebkpjab", sum := "5d02e42c648ab2c74fa5f809c8e915fe64940b993f9af16e458a32490d917198", func := "loop.example/sundials/laws.FnCornersOf", spec := "fnCornersOf", unfollowed := true, recurses := true, apart := false }
def FnCornersOfSaid : Prop := fnCornersOfRow.holds Try.pinned (OpenSpec.ofChange fnCornersOfSpec)

/-- ITS FALSE NEIGHBOUR: 'it returns false'. Refute it at one input. -/
def fnCornersOfWrong : ChangeSpec := { name := "fnCornersOf", fn := fun _ => fun
  | [d] => { results := [.lit (.bool false)], args := [d] }
  | _ => none }
def FnCornersOfWrongFalsely : Prop := fnCornersOfRow.holds Try.pinned (OpenSpec.ofChange fnCornersOfWrong)

/- THE SECOND FORM. 'bulk': how many values and letters a reading holds, each counted each time it is reached (what is shared counts as often as it is met; a slice's spare places count too). A statement '..UptoSaid' is the law's where the arguments, and the package variables that the reading takes, are together of bulk at most 1048576: NARROWER than '..Said'. Prove '..Said' where nothing that the law and all that it calls make is longer than what came in: it says more and counts as full. Else prove '..UptoSaid'. A law counts once. -/
mutual
def uptoBulk {H : Type} : DataW H → Nat
  | .lit (.string bytes) => bytes.length + 1
  | .lit _ => 1
  | .nil => 1
  | .ptr d => uptoBulk d + 1
  | .slice elems spare => uptoBulkAll elems + uptoBulkAll spare + 1
  | .agg parts => uptoBulkAll parts + 1
  | .iface _ d => uptoBulk d + 1
  | .map entries => uptoBulkEntries entries + 1
  | .held _ => 1
def uptoBulkAll {H : Type} : List (DataW H) → Nat
  | [] => 0
  | d :: r => uptoBulk d + uptoBulkAll r
def uptoBulkEntries {H : Type} : List (Lit × DataW H) → Nat
  | [] => 0
  | x :: r => uptoBulkEntry x + uptoBulkEntries r
def uptoBulkEntry {H : Type} : Lit × DataW H → Nat
  | (.string bytes, d) => bytes.length + uptoBulk d + 1
  | (_, d) => uptoBulk d + 1
 end
def uptoSmall : (H : Type) → List (DataW H) → Bool := fun _ ds => decide (uptoBulkAll ds ≤ 1048576)
def OpenSpec.upto (s : _root_.Go.ChangeSpec) : _root_.Go.OpenSpec := { _root_.Go.OpenSpec.ofChange s with cond := some uptoSmall }

/-- 'laws.FnInShadow', WHERE WHAT IT READS IS OF BULK AT MOST 1048576: true; the input reads as it did. -/
def fnInShadowUptoRow : OpenClaim := { program := "ytlahjgjjebkpjab", sum := "5d02e42c648ab2c74fa5f809c8e915fe64940b993f9af16e458a32490d917198", func := "loop.example/sundials/laws.FnInShadow", spec := "fnInShadow", unfollowed := true, recurses := true, apart := false, narrowed := true }
def FnInShadowUptoSaid : Prop := fnInShadowUptoRow.holds Try.pinned (OpenSpec.upto fnInShadowSpec)

/-- 'laws.FnCasts', WHERE WHAT IT READS IS OF BULK AT MOST 1048576: true; the input reads as it did. -/
def fnCastsUptoRow : OpenClaim := { program := "ytlahjgjjebkpjab", sum := "5d02e42c648ab2c74fa5f809c8e915fe64940b993f9af16e458a32490d917198", func := "loop.example/sundials/laws.FnCasts", spec := "fnCasts", unfollowed := true, recurses := true, apart := false, narrowed := true }
def FnCastsUptoSaid : Prop := fnCastsUptoRow.holds Try.pinned (OpenSpec.upto fnCastsSpec)

/-- 'laws.FnLowestUp', WHERE WHAT IT READS IS OF BULK AT MOST 1048576: true; the input reads as it did. -/
def fnLowestUpUptoRow : OpenClaim := { program := "ytlahjgjjebkpjab", sum := "5d02e42c648ab2c74fa5f809c8e915fe64940b993f9af16e458a32490d917198", func := "loop.example/sundials/laws.FnLowestUp", spec := "fnLowestUp", unfollowed := true, recurses := true, apart := false, narrowed := true }
def FnLowestUpUptoSaid : Prop := fnLowestUpUptoRow.holds Try.pinned (OpenSpec.upto fnLowestUpSpec)

/-- 'laws.FnHeightFor', WHERE WHAT IT READS IS OF BULK AT MOST 1048576: true; the input reads as it did. -/
def fnHeightForUptoRow : OpenClaim := { program := "ytlahjgjjebkpjab", sum := "5d02e42c648ab2c74fa5f809c8e915fe64940b993f9af16e458a32490d917198", func := "loop.example/sundials/laws.FnHeightFor", spec := "fnHeightFor", unfollowed := true, recurses := true, apart := false, narrowed := true }
def FnHeightForUptoSaid : Prop := fnHeightForUptoRow.holds Try.pinned (OpenSpec.upto fnHeightForSpec)

/-- 'laws.FnBlocksValid', WHERE WHAT IT READS IS OF BULK AT MOST 1048576: true; the input reads as it did. -/
def fnBlocksValidUptoRow : OpenClaim := { program := "ytlahjgjjebkpjab", sum := "5d02e42c648ab2c74fa5f809c8e915fe64940b993f9af16e458a32490d917198", func := "loop.example/sundials/laws.FnBlocksValid", spec := "fnBlocksValid", unfollowed := true, recurses := true, apart := false, narrowed := true }
def FnBlocksValidUptoSaid : Prop := fnBlocksValidUptoRow.holds Try.pinned (OpenSpec.upto fnBlocksValidSpec)

/-- 'laws.FnLit', WHERE WHAT IT READS IS OF BULK AT MOST 1048576: true; the input reads as it did. -/
def fnLitUptoRow : OpenClaim := { program := "ytlahjgjjebkpjab", sum := "5d02e42c648ab2c74fa5f809c8e915fe64940b993f9af16e458a32490d917198", func := "loop.example/sundials/laws.FnLit", spec := "fnLit", unfollowed := true, recurses := true, apart := false, narrowed := true }
def FnLitUptoSaid : Prop := fnLitUptoRow.holds Try.pinned (OpenSpec.upto fnLitSpec)

/-- 'laws.FnRaysLit', WHERE WHAT IT READS IS OF BULK AT MOST 1048576: true; the input reads as it did. -/
def fnRaysLitUptoRow : OpenClaim := { program := "ytlahjgjjebkpjab", sum := "5d02e42c648ab2c74fa5f809c8e915fe64940b993f9af16e458a32490d917198", func := "loop.example/sundials/laws.FnRaysLit", spec := "fnRaysLit", unfollowed := true, recurses := true, apart := false, narrowed := true }
def FnRaysLitUptoSaid : Prop := fnRaysLitUptoRow.holds Try.pinned (OpenSpec.upto fnRaysLitSpec)

/-- 'laws.FnCornersOf', WHERE WHAT IT READS IS OF BULK AT MOST 1048576: true; the input reads as it did. -/
def fnCornersOfUptoRow : OpenClaim := { program := "ytlahjgjjebkpjab", sum := "5d02e42c648ab2c74fa5f809c8e915fe64940b993f9af16e458a32490d917198", func := "loop.example/sundials/laws.FnCornersOf", spec := "fnCornersOf", unfollowed := true, recurses := true, apart := false, narrowed := true }
def FnCornersOfUptoSaid : Prop := fnCornersOfUptoRow.holds Try.pinned (OpenSpec.upto fnCornersOfSpec)

end Rows
end Go.Proofs.Ytlahjgjjebkpjab
