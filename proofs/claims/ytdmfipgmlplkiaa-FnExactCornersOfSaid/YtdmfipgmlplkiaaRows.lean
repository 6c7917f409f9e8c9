/-
  No cell of these rows narrows 'for every input' (looked for: loops, veiled, ifaces, maps, wideKeys, modest, calm, conditions, laid).
  DERIVED. THE GIVEN ROWS OF THIS SEAT. 8 by the template 'for every input the law returns true; each argument reads behind the call as it read before'; 0 by the template 'total and deterministic' (their statements: YtdmfipgmlplkiaaTotals.lean).
  GIVEN WITH THE SEED: the statements are not yours to turn. If you find one false, say at which input.
  Laid BY PROGRAM, IN A SANDBOX (cutbox-rows.mjs): the forced cells as the released guide's own fill.sh prints them over the translation c31b91d47b3736de… (all of the seat's roots in one cut). By AI agents, Wed Nov 11 2026. No macro, syntax, notation, axiom, sorry.
-/
import Derived.Test.YtdmfipgmlplkiaaChecked
import GoSem.Claim
import GoSem.ClaimJoined
import GoSem.ClaimMapViews
import Derived.JoinedTies
import Derived.KernelRfl
namespace Go.Proofs.Ytdmfipgmlplkiaa
/- THE CELL 'sum', in the pinned program and in every row, IS THE sha256 OF THE DUMP (.gsa) THAT YtdmfipgmlplkiaaProg.lean LOADS. Nothing in Lean hashes anything: it is a label: what it is worth is what the hold of that sum in a sandbox is worth. -/
noncomputable def Try.pinned : Pinned := { name := "ytdmfipgmlplkiaa", sum := "c31b91d47b3736de8eba468aea03bc6601f7c0de0b1ee6f602c788da2f451fda", checked := Try.checked }
namespace Rows
def none {H : Type} : Left H := { results := [], args := [] }

/-- 'laws.FnExactBlocksValid': WHATEVER THE INPUT: true; the input reads as it did. -/
def fnExactBlocksValidSpec : ChangeSpec := { name := "fnExactBlocksValid", fn := fun _ => fun
  | [d] => { results := [.lit (.bool true)], args := [d] }
  | _ => none }
def fnExactBlocksValidRow : OpenClaim := { program := "ytdmfipgmlplkiaa", sum := "c31b91d47b3736de8eba468aea03bc6601f7c0de0b1ee6f602c788da2f451fda", func := "loop.example/sundials/laws.FnExactBlocksValid", spec := "fnExactBlocksValid", unfollowed := true, recurses := true, apart := false }
def FnExactBlocksValidSaid : Prop := fnExactBlocksValidRow.holds Try.pinned (OpenSpec.ofChange fnExactBlocksValidSpec)

/-- ITS FALSE NEIGHBOUR: 'it returns false'. Refute it at one input. -/
def fnExactBlocksValidWrong : ChangeSpec := { name := "fnExactBlocksValid", fn := fun _ => fun
  | [d] => { results := [.lit (.bool false)], args := [d] }
  | _ => none }
def FnExactBlocksValidWrongFalsely : Prop := fnExactBlocksValidRow.holds Try.pinned (OpenSpec.ofChange fnExactBlocksValidWrong)

/-- 'laws.FnExactInShadow': WHATEVER THE INPUT: true; the input reads as it did. -/
def fnExactInShadowSpec : ChangeSpec := { name := "fnExactInShadow", fn := fun _ => fun
  | [d1, d2, d3] => { results := [.lit (.bool true)], args := [d1, d2, d3] }
  | _ => none }
def fnExactInShadowRow : OpenClaim := { program := "ytdmfipgmlplkiaa", sum := "c31b91d47b3736de8eba468aea03bc6601f7c0de0b1ee6f602c788da2f451fda", func := "loop.example/sundials/laws.FnExactInShadow", spec := "fnExactInShadow", unfollowed := true, recurses := true, apart := false }
def FnExactInShadowSaid : Prop := fnExactInShadowRow.holds Try.pinned (OpenSpec.ofChange fnExactInShadowSpec)

/-- ITS FALSE NEIGHBOUR: 'it returns false'. Refute it at one input. -/
def fnExactInShadowWrong : ChangeSpec := { name := "fnExactInShadow", fn := fun _ => fun
  | [d1, d2, d3] => { results := [.lit (.bool false)], args := [d1, d2, d3] }
  | _ => none }
def FnExactInShadowWrongFalsely : Prop := fnExactInShadowRow.holds Try.pinned (OpenSpec.ofChange fnExactInShadowWrong)

/-- 'laws.FnExactLit': WHATEVER THE INPUT: true; the input reads as it did. -/
def fnExactLitSpec : ChangeSpec := { name := "fnExactLit", fn := fun _ => fun
  | [d1, d2, d3] => { results := [.lit (.bool true)], args := [d1, d2, d3] }
  | _ => none }
def fnExactLitRow : OpenClaim := { program := "ytdmfipgmlplkiaa", sum := "c31b91d47b3736de8eba468aea03bc6601f7c0de0b1ee6f602c788da2f451fda", func := "loop.example/sundials/laws.FnExactLit", spec := "fnExactLit", unfollowed := true, recurses := true, apart := false }
def FnExactLitSaid : Prop := fnExactLitRow.holds Try.pinned (OpenSpec.ofChange fnExactLitSpec)

/-- ITS FALSE NEIGHBOUR: 'it returns false'. Refute it at one input. -/
def fnExactLitWrong : ChangeSpec := { name := "fnExactLit", fn := fun _ => fun
  | [d1, d2, d3] => { results := [.lit (.bool false)], args := [d1, d2, d3] }
  | _ => none }
def FnExactLitWrongFalsely : Prop := fnExactLitRow.holds Try.pinned (OpenSpec.ofChange fnExactLitWrong)

/-- 'laws.FnExactRaysLit': WHATEVER THE INPUT: true; the input reads as it did. -/
def fnExactRaysLitSpec : ChangeSpec := { name := "fnExactRaysLit", fn := fun _ => fun
  | [d1, d2, d3] => { results := [.lit (.bool true)], args := [d1, d2, d3] }
  | _ => none }
def fnExactRaysLitRow : OpenClaim := { program := "ytdmfipgmlplkiaa", sum := "c31b91d47b3736de8eba468aea03bc6601f7c0de0b1ee6f602c788da2f451fda", func := "loop.example/sundials/laws.FnExactRaysLit", spec := "fnExactRaysLit", unfollowed := true, recurses := true, apart := false }
def FnExactRaysLitSaid : Prop := fnExactRaysLitRow.holds Try.pinned (OpenSpec.ofChange fnExactRaysLitSpec)

/-- ITS FALSE NEIGHBOUR: 'it returns false'. Refute it at one input. -/
def fnExactRaysLitWrong : ChangeSpec := { name := "fnExactRaysLit", fn := fun _ => fun
  | [d1, d2, d3] => { results := [.lit (.bool false)], args := [d1, d2, d3] }
  | _ => none }
def FnExactRaysLitWrongFalsely : Prop := fnExactRaysLitRow.holds Try.pinned (OpenSpec.ofChange fnExactRaysLitWrong)

/-- 'laws.FnExactCornersOf': WHATEVER THE INPUT: true; the input reads as it did. -/
def fnExactCornersOfSpec : ChangeSpec := { name := "fnExactCornersOf", fn := fun _ => fun
  | [d1, d2] => { results := [.lit (.bool true)], args := [d1, d2] }
  | _ => none }
def fnExactCornersOfRow : OpenClaim := { program := "ytdmfipgmlplkiaa", sum := "c31b91d47b3736de8eba468aea03bc6601f7c0de0b1ee6f602c788da2f451fda", func := "loop.example/sundials/laws.FnExactCornersOf", spec := "fnExactCornersOf", apart := false }
def FnExactCornersOfSaid : Prop := fnExactCornersOfRow.holds Try.pinned (OpenSpec.ofChange fnExactCornersOfSpec)

/-- ITS FALSE NEIGHBOUR: 'it returns false'. Refute it at one input. -/
def fnExactCornersOfWrong : ChangeSpec := { name := "fnExactCornersOf", fn := fun _ => fun
  | [d1, d2] => { results := [.lit (.bool false)], args := [d1, d2] }
  | _ => none }
def FnExactCornersOfWrongFalsely : Prop := fnExactCornersOfRow.holds Try.pinned (OpenSpec.ofChange fnExactCornersOfWrong)

/-- 'laws.FnExactCasts': WHATEVER THE INPUT: true; the input reads as it did. -/
def fnExactCastsSpec : ChangeSpec := { name := "fnExactCasts", fn := fun _ => fun
  | [d1, d2, d3] => { results := [.lit (.bool true)], args := [d1, d2, d3] }
  | _ => none }
def fnExactCastsRow : OpenClaim := { program := "ytdmfipgmlplkiaa", sum := "c31b91d47b3736de8eba468aea03bc6601f7c0de0b1ee6f602c788da2f451fda", func := "loop.example/sundials/laws.FnExactCasts", spec := "fnExactCasts", unfollowed := true, recurses := true, apart := false }
def FnExactCastsSaid : Prop := fnExactCastsRow.holds Try.pinned (OpenSpec.ofChange fnExactCastsSpec)

/-- ITS FALSE NEIGHBOUR: 'it returns false'. Refute it at one input. -/
def fnExactCastsWrong : ChangeSpec := { name := "fnExactCasts", fn := fun _ => fun
  | [d1, d2, d3] => { results := [.lit (.bool false)], args := [d1, d2, d3] }
  | _ => none }
def FnExactCastsWrongFalsely : Prop := fnExactCastsRow.holds Try.pinned (OpenSpec.ofChange fnExactCastsWrong)

/-- 'laws.FnExactLowestUp': WHATEVER THE INPUT: true; the input reads as it did. -/
def fnExactLowestUpSpec : ChangeSpec := { name := "fnExactLowestUp", fn := fun _ => fun
  | [d1, d2, d3, d4] => { results := [.lit (.bool true)], args := [d1, d2, d3, d4] }
  | _ => none }
def fnExactLowestUpRow : OpenClaim := { program := "ytdmfipgmlplkiaa", sum := "c31b91d47b3736de8eba468aea03bc6601f7c0de0b1ee6f602c788da2f451fda", func := "loop.example/sundials/laws.FnExactLowestUp", spec := "fnExactLowestUp", unfollowed := true, recurses := true, apart := false }
def FnExactLowestUpSaid : Prop := fnExactLowestUpRow.holds Try.pinned (OpenSpec.ofChange fnExactLowestUpSpec)

/-- ITS FALSE NEIGHBOUR: 'it returns false'. Refute it at one input. -/
def fnExactLowestUpWrong : ChangeSpec := { name := "fnExactLowestUp", fn := fun _ => fun
  | [d1, d2, d3, d4] => { results := [.lit (.bool false)], args := [d1, d2, d3, d4] }
  | _ => none }
def FnExactLowestUpWrongFalsely : Prop := fnExactLowestUpRow.holds Try.pinned (OpenSpec.ofChange fnExactLowestUpWrong)

/-- 'laws.FnExactHeightFor': WHATEVER THE INPUT: true; the input reads as it did. -/
def fnExactHeightForSpec : ChangeSpec := { name := "fnExactHeightFor", fn := fun _ => fun
  | [d1, d2, d3] => { results := [.lit (.bool true)], args := [d1, d2, d3] }
  | _ => none }
def fnExactHeightForRow : OpenClaim := { program := "ytdmfipgmlplkiaa", sum := "c31b91d47b3736de8eba468aea03bc6601f7c0de0b1ee6f602c788da2f451fda", func := "loop.example/sundials/laws.FnExactHeightFor", spec := "fnExactHeightFor", unfollowed := true, recurses := true, apart := false }
def FnExactHeightForSaid : Prop := fnExactHeightForRow.holds Try.pinned (OpenSpec.ofChange fnExactHeightForSpec)

/-- ITS FALSE NEIGHBOUR: 'it returns false'. Refute it at one input. -/
def fnExactHeightForWrong : ChangeSpec := { name := "fnExactHeightFor", fn := fun _ => fun
  | [d1, d2, d3] => { results := [.lit (.bool false)], args := [d1, d2, d3] }
  | _ => none }
def FnExactHeightForWrongFalsely : Prop := fnExactHeightForRow.holds Try.pinned (OpenSpec.ofChange fnExactHeightForWrong)

/- THE SECOND FORM. 'bulk': how many values and letters a reading holds, each counted each time it is reached (what is shared counts as often as it is met; a slice's spare places count too). A statement '..UptoSaid' is the law's where the arguments, and the package variables that the reading takes, are together of bulk at most 1048576: NARROWER than '..Said'. Prove '..Said' where nothing that the law and all that it calls make is longer than what came in: it says more and counts as full. Else prove '..UptoSaid'. A law counts once. -/
mutual
def uptoBulk {H : Type} : DataW H → Nat
  | .lit (.string bytes) => bytes.length + 1
  | .lit _ => 1
  | .nil => 1
  | .ptr d => uptoBulk d + 1
  | .slice elems spare => uptoBulkAll elems + uptoBulkAll spare + 1
  | .agg parts => uptoBulkAll parts + 1
  | .iface _ d => uptoBulk d + 1
  | .map entries => uptoBulkEntries entries + 1
  | .held _ => 1
def uptoBulkAll {H : Type} : List (DataW H) → Nat
  | [] => 0
  | d :: r => uptoBulk d + uptoBulkAll r
def uptoBulkEntries {H : Type} : List (Lit × DataW H) → Nat
  | [] => 0
  | x :: r => uptoBulkEntry x + uptoBulkEntries r
def uptoBulkEntry {H : Type} : Lit × DataW H → Nat
  | (.string bytes, d) => bytes.length + uptoBulk d + 1
  | (_, d) => uptoBulk d + 1
 end
def uptoSmall : (H : Type) → List (DataW H) → Bool := fun _ ds => decide (uptoBulkAll ds ≤ 1048576)
def OpenSpec.upto (s : _root_.Go.ChangeSpec) : _root_.Go.OpenSpec := { _root_.Go.OpenSpec.ofChange s with cond := some uptoSmall }

/-- 'laws.FnExactBlocksValid', WHERE WHAT IT READS IS OF BULK AT MOST 1048576: true; the input reads as it did. -/
def fnExactBlocksValidUptoRow : OpenClaim := { program := "ytdmfipgmlplkiaa", sum := "c31b91d47b3736de8eba468aea03bc6601f7c0de0b1ee6f602c788da2f451fda", func := "loop.example/sundials/laws.FnExactBlocksValid", spec := "fnExactBlocksValid", unfollowed := true, recurses := true, apart := false, narrowed := true }
def FnExactBlocksValidUptoSaid : Prop := fnExactBlocksValidUptoRow.holds Try.pinned (OpenSpec.upto fnExactBlocksValidSpec)

/-- 'laws.FnExactInShadow', WHERE WHAT IT READS IS OF BULK AT MOST 1048576: true; the input reads as it did. -/
def fnExactInShadowUptoRow : OpenClaim := { program := "ytdmfipgmlplkiaa", sum := "c31b91d47b3736de8eba468aea03bc6601f7c0de0b1ee6f602c788da2f451fda", func := "loop.example/sundials/laws.FnExactInShadow", spec := "fnExactInShadow", unfollowed := true, recurses := true, apart := false, narrowed := true }
def FnExactInShadowUptoSaid : Prop := fnExactInShadowUptoRow.holds Try.pinned (OpenSpec.upto fnExactInShadowSpec)

/-- 'laws.FnExactLit', WHERE WHAT IT READS IS OF BULK AT MOST 1048576: true; the input reads as it did. -/
def fnExactLitUptoRow : OpenClaim := { program := "ytdmfipgmlplkiaa", sum := "c31b91d47b3736de8eba468aea03bc6601f7c0de0b1ee6f602c788da2f451fda", func := "loop.example/sundials/laws.FnExactLit", spec := "fnExactLit", unfollowed := true, recurses := true, apart := false, narrowed := true }
def FnExactLitUptoSaid : Prop := fnExactLitUptoRow.holds Try.pinned (OpenSpec.upto fnExactLitSpec)

/-- 'laws.FnExactRaysLit', WHERE WHAT IT READS IS OF BULK AT MOST 1048576: true; the input reads as it did. -/
def fnExactRaysLitUptoRow : OpenClaim := { program := "ytdmfipgmlplkiaa", sum := "c31b91d47b3736de8eba468aea03bc6601f7c0de0b1ee6f602c788da2f451fda", func := "loop.example/sundials/laws.FnExactRaysLit", spec := "fnExactRaysLit", unfollowed := true, recurses := true, apart := false, narrowed := true }
def FnExactRaysLitUptoSaid : Prop := fnExactRaysLitUptoRow.holds Try.pinned (OpenSpec.upto fnExactRaysLitSpec)

/-- 'laws.FnExactCornersOf', WHERE WHAT IT READS IS OF BULK AT MOST 1048576: true; the input reads as it did. -/
def fnExactCornersOfUptoRow : OpenClaim := { program := "ytdmfipgmlplkiaa", sum := "c31b91d47b3736de8eba468aea03bc6601f7c0de0b1ee6f602c788da2f451fda", func := "loop.example/sundials/laws.FnExactCornersOf", spec := "fnExactCornersOf", apart := false, narrowed := true }
def FnExactCornersOfUptoSaid : Prop := fnExactCornersOfUptoRow.holds Try.pinned (OpenSpec.upto fnExactCornersOfSpec)

/-- 'laws.FnExactCasts', WHERE WHAT IT READS IS OF BULK AT MOST 1048576: true; the input reads as it did. -/
def fnExactCastsUptoRow : OpenClaim := { program := "ytdmfipgmlplkiaa", sum := "c31b91d47b3736de8eba468aea03bc6601f7c0de0b1ee6f602c788da2f451fda", func := "loop.example/sundials/laws.FnExactCasts", spec := "fnExactCasts", unfollowed := true, recurses := true, apart := false, narrowed := true }
def FnExactCastsUptoSaid : Prop := fnExactCastsUptoRow.holds Try.pinned (OpenSpec.upto fnExactCastsSpec)

/-- 'laws.FnExactLowestUp', WHERE WHAT IT READS IS OF BULK AT MOST 1048576: true; the input reads as it did. -/
def fnExactLowestUpUptoRow : OpenClaim := { program := "ytdmfipgmlplkiaa", sum := "c31b91d47b3736de8eba468aea03bc6601f7c0de0b1ee6f602c788da2f451fda", func := "loop.example/sundials/laws.FnExactLowestUp", spec := "fnExactLowestUp", unfollowed := true, recurses := true, apart := false, narrowed := true }
def FnExactLowestUpUptoSaid : Prop := fnExactLowestUpUptoRow.holds Try.pinned (OpenSpec.upto fnExactLowestUpSpec)

/-- 'laws.FnExactHeightFor', WHERE WHAT IT READS IS OF BULK AT MOST 1048576: true; the input reads as it did. -/
def fnExactHeightForUptoRow : OpenClaim := { program := "ytdmfipgmlplkiaa", sum := "c31b91d47b3736de8eba468aea03bc6601f7c0de0b1ee6f602c788da2f451fda", func := "loop.example/sundials/laws.FnExactHeightFor", spec := "fnExactHeightFor", unfollowed := true, recurses := true, apart := false, narrowed := true }
def FnExactHeightForUptoSaid : Prop := fnExactHeightForUptoRow.holds Try.pinned (OpenSpec.upto fnExactHeightForSpec)

end Rows
end Go.Proofs.Ytdmfipgmlplkiaa
