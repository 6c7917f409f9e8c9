/-
  No cell of these rows narrows 'for every input' (looked for: loops, veiled, ifaces, maps, wideKeys, modest, calm, conditions, laid).
  DERIVED. THE GIVEN ROWS OF THIS SEAT. 7 by the template 'for every input the law returns true; each argument reads behind the call as it read before'; 0 by the template 'total and deterministic' (their statements: YtoklehmoeollfaaTotals.lean).
  GIVEN WITH THE SEED: the statements are not yours to turn. If you find one false, say at which input.
  Laid BY PROGRAM, IN A SANDBOX (cutbox-rows.mjs): the forced cells as the released guide's own fill.sh prints them over the translation c41fad662cdbfa05… (all of the seat's roots in one cut). By AI agents, Wed Nov 11 2026. No macro, syntax, notation, axiom, sorry.
-/
import Derived.Test.YtoklehmoeollfaaChecked
import GoSem.Claim
import GoSem.ClaimJoined
import GoSem.ClaimMapViews
import Derived.JoinedTies
import Derived.KernelRfl
namespace Go.Proofs.Ytoklehmoeollfaa
/- THE CELL 'sum', in the pinned program and in every row, IS THE sha256 OF THE DUMP (.gsa) THAT YtoklehmoeollfaaProg.lean LOADS. Nothing in Lean hashes anything: it is a label: what it is worth is what the hold of that sum in a sandbox is worth. -/
noncomputable def Try.pinned : Pinned := { name := "ytoklehmoeollfaa", sum := "c41fad662cdbfa05f0ab7312d04dd289ae73287c001b42b34507fc55bcaeb168", checked := Try.checked }
namespace Rows
def none {H : Type} : Left H := { results := [], args := [] }

/-- 'laws.FnRotaValid': WHATEVER THE INPUT: true; the input reads as it did. -/
def fnRotaValidSpec : ChangeSpec := { name := "fnRotaValid", fn := fun _ => fun
  | [d] => { results := [.lit (.bool true)], args := [d] }
  | _ => none }
def fnRotaValidRow : OpenClaim := { program := "ytoklehmoeollfaa", sum := "c41fad662cdbfa05f0ab7312d04dd289ae73287c001b42b34507fc55bcaeb168", func := "loop.example/sundials/laws.FnRotaValid", spec := "fnRotaValid", unfollowed := true, recurses := true, apart := false }
def FnRotaValidSaid : Prop := fnRotaValidRow.holds Try.pinned (OpenSpec.ofChange fnRotaValidSpec)

/-- ITS FALSE NEIGHBOUR: 'it returns false'. Refute it at one input. -/
def fnRotaValidWrong : ChangeSpec := { name := "fnRotaValid", fn := fun _ => fun
  | [d] => { results := [.lit (.bool false)], args := [d] }
  | _ => none }
def FnRotaValidWrongFalsely : Prop := fnRotaValidRow.holds Try.pinned (OpenSpec.ofChange fnRotaValidWrong)

/-- 'laws.FnRotaRest': WHATEVER THE INPUT: true; the input reads as it did. -/
def fnRotaRestSpec : ChangeSpec := { name := "fnRotaRest", fn := fun _ => fun
  | [d] => { results := [.lit (.bool true)], args := [d] }
  | _ => none }
def fnRotaRestRow : OpenClaim := { program := "ytoklehmoeollfaa", sum := "c41fad662cdbfa05f0ab7312d04dd289ae73287c001b42b34507fc55bcaeb168", func := "loop.example/sundials/laws.FnRotaRest", spec := "fnRotaRest", unfollowed := true, recurses := true, apart := false }
def FnRotaRestSaid : Prop := fnRotaRestRow.holds Try.pinned (OpenSpec.ofChange fnRotaRestSpec)

/-- ITS FALSE NEIGHBOUR: 'it returns false'. Refute it at one input. -/
def fnRotaRestWrong : ChangeSpec := { name := "fnRotaRest", fn := fun _ => fun
  | [d] => { results := [.lit (.bool false)], args := [d] }
  | _ => none }
def FnRotaRestWrongFalsely : Prop := fnRotaRestRow.holds Try.pinned (OpenSpec.ofChange fnRotaRestWrong)

/-- 'laws.FnRotaTurn': WHATEVER THE INPUT: true; the input reads as it did. -/
def fnRotaTurnSpec : ChangeSpec := { name := "fnRotaTurn", fn := fun _ => fun
  | [d] => { results := [.lit (.bool true)], args := [d] }
  | _ => none }
def fnRotaTurnRow : OpenClaim := { program := "ytoklehmoeollfaa", sum := "c41fad662cdbfa05f0ab7312d04dd289ae73287c001b42b34507fc55bcaeb168", func := "loop.example/sundials/laws.FnRotaTurn", spec := "fnRotaTurn", unfollowed := true, recurses := true, apart := false }
def FnRotaTurnSaid : Prop := fnRotaTurnRow.holds Try.pinned (OpenSpec.ofChange fnRotaTurnSpec)

/-- ITS FALSE NEIGHBOUR: 'it returns false'. Refute it at one input. -/
def fnRotaTurnWrong : ChangeSpec := { name := "fnRotaTurn", fn := fun _ => fun
  | [d] => { results := [.lit (.bool false)], args := [d] }
  | _ => none }
def FnRotaTurnWrongFalsely : Prop := fnRotaTurnRow.holds Try.pinned (OpenSpec.ofChange fnRotaTurnWrong)

/-- 'laws.FnRotaJoin': WHATEVER THE INPUT: true; the input reads as it did. -/
def fnRotaJoinSpec : ChangeSpec := { name := "fnRotaJoin", fn := fun _ => fun
  | [d] => { results := [.lit (.bool true)], args := [d] }
  | _ => none }
def fnRotaJoinRow : OpenClaim := { program := "ytoklehmoeollfaa", sum := "c41fad662cdbfa05f0ab7312d04dd289ae73287c001b42b34507fc55bcaeb168", func := "loop.example/sundials/laws.FnRotaJoin", spec := "fnRotaJoin", unfollowed := true, recurses := true, apart := false }
def FnRotaJoinSaid : Prop := fnRotaJoinRow.holds Try.pinned (OpenSpec.ofChange fnRotaJoinSpec)

/-- ITS FALSE NEIGHBOUR: 'it returns false'. Refute it at one input. -/
def fnRotaJoinWrong : ChangeSpec := { name := "fnRotaJoin", fn := fun _ => fun
  | [d] => { results := [.lit (.bool false)], args := [d] }
  | _ => none }
def FnRotaJoinWrongFalsely : Prop := fnRotaJoinRow.holds Try.pinned (OpenSpec.ofChange fnRotaJoinWrong)

/-- 'laws.FnLineOk': WHATEVER THE INPUT: true; the input reads as it did. -/
def fnLineOkSpec : ChangeSpec := { name := "fnLineOk", fn := fun _ => fun
  | [d] => { results := [.lit (.bool true)], args := [d] }
  | _ => none }
def fnLineOkRow : OpenClaim := { program := "ytoklehmoeollfaa", sum := "c41fad662cdbfa05f0ab7312d04dd289ae73287c001b42b34507fc55bcaeb168", func := "loop.example/sundials/laws.FnLineOk", spec := "fnLineOk", apart := false }
def FnLineOkSaid : Prop := fnLineOkRow.holds Try.pinned (OpenSpec.ofChange fnLineOkSpec)

/-- ITS FALSE NEIGHBOUR: 'it returns false'. Refute it at one input. -/
def fnLineOkWrong : ChangeSpec := { name := "fnLineOk", fn := fun _ => fun
  | [d] => { results := [.lit (.bool false)], args := [d] }
  | _ => none }
def FnLineOkWrongFalsely : Prop := fnLineOkRow.holds Try.pinned (OpenSpec.ofChange fnLineOkWrong)

/-- 'laws.FnLinesMany': WHATEVER THE INPUT: true; the input reads as it did. -/
def fnLinesManySpec : ChangeSpec := { name := "fnLinesMany", fn := fun _ => fun
  | [d] => { results := [.lit (.bool true)], args := [d] }
  | _ => none }
def fnLinesManyRow : OpenClaim := { program := "ytoklehmoeollfaa", sum := "c41fad662cdbfa05f0ab7312d04dd289ae73287c001b42b34507fc55bcaeb168", func := "loop.example/sundials/laws.FnLinesMany", spec := "fnLinesMany", apart := false }
def FnLinesManySaid : Prop := fnLinesManyRow.holds Try.pinned (OpenSpec.ofChange fnLinesManySpec)

/-- ITS FALSE NEIGHBOUR: 'it returns false'. Refute it at one input. -/
def fnLinesManyWrong : ChangeSpec := { name := "fnLinesMany", fn := fun _ => fun
  | [d] => { results := [.lit (.bool false)], args := [d] }
  | _ => none }
def FnLinesManyWrongFalsely : Prop := fnLinesManyRow.holds Try.pinned (OpenSpec.ofChange fnLinesManyWrong)

/-- 'laws.FnLineFirst': WHATEVER THE INPUT: true; the input reads as it did. -/
def fnLineFirstSpec : ChangeSpec := { name := "fnLineFirst", fn := fun _ => fun
  | [d] => { results := [.lit (.bool true)], args := [d] }
  | _ => none }
def fnLineFirstRow : OpenClaim := { program := "ytoklehmoeollfaa", sum := "c41fad662cdbfa05f0ab7312d04dd289ae73287c001b42b34507fc55bcaeb168", func := "loop.example/sundials/laws.FnLineFirst", spec := "fnLineFirst", apart := false }
def FnLineFirstSaid : Prop := fnLineFirstRow.holds Try.pinned (OpenSpec.ofChange fnLineFirstSpec)

/-- ITS FALSE NEIGHBOUR: 'it returns false'. Refute it at one input. -/
def fnLineFirstWrong : ChangeSpec := { name := "fnLineFirst", fn := fun _ => fun
  | [d] => { results := [.lit (.bool false)], args := [d] }
  | _ => none }
def FnLineFirstWrongFalsely : Prop := fnLineFirstRow.holds Try.pinned (OpenSpec.ofChange fnLineFirstWrong)

/- THE SECOND FORM. 'bulk': how many values and letters a reading holds, each counted each time it is reached (what is shared counts as often as it is met; a slice's spare places count too). A statement '..UptoSaid' is the law's where the arguments, and the package variables that the reading takes, are together of bulk at most 1048576: NARROWER than '..Said'. Prove '..Said' where nothing that the law and all that it calls make is longer than what came in: it says more and counts as full. Else prove '..UptoSaid'. A law counts once. -/
mutual
def uptoBulk {H : Type} : DataW H → Nat
  | .lit (.string bytes) => bytes.length + 1
  | .lit _ => 1
  | .nil => 1
  | .ptr d => uptoBulk d + 1
  | .slice elems spare => uptoBulkAll elems + uptoBulkAll spare + 1
  | .agg parts => uptoBulkAll parts + 1
  | .iface _ d => uptoBulk d + 1
  | .map entries => uptoBulkEntries entries + 1
  | .held _ => 1
def uptoBulkAll {H : Type} : List (DataW H) → Nat
  | [] => 0
  | d :: r => uptoBulk d + uptoBulkAll r
def uptoBulkEntries {H : Type} : List (Lit × DataW H) → Nat
  | [] => 0
  | x :: r => uptoBulkEntry x + uptoBulkEntries r
def uptoBulkEntry {H : Type} : Lit × DataW H → Nat
  | (.string bytes, d) => bytes.length + uptoBulk d + 1
  | (_, d) => uptoBulk d + 1
 end
def uptoSmall : (H : Type) → List (DataW H) → Bool := fun _ ds => decide (uptoBulkAll ds ≤ 1048576)
def OpenSpec.upto (s : _root_.Go.ChangeSpec) : _root_.Go.OpenSpec := { _root_.Go.OpenSpec.ofChange s with cond := some uptoSmall }

/-- 'laws.FnRotaValid', WHERE WHAT IT READS IS OF BULK AT MOST 1048576: true; the input reads as it did. -/
def fnRotaValidUptoRow : OpenClaim := { program := "ytoklehmoeollfaa", sum := "c41fad662cdbfa05f0ab7312d04dd289ae73287c001b42b34507fc55bcaeb168", func := "loop.example/sundials/laws.FnRotaValid", spec := "fnRotaValid", unfollowed := true, recurses := true, apart := false, narrowed := true }
def FnRotaValidUptoSaid : Prop := fnRotaValidUptoRow.holds Try.pinned (OpenSpec.upto fnRotaValidSpec)

/-- 'laws.FnRotaRest', WHERE WHAT IT READS IS OF BULK AT MOST 1048576: true; the input reads as it did. -/
def fnRotaRestUptoRow : OpenClaim := { program := "ytoklehmoeollfaa", sum := "c41fad662cdbfa05f0ab7312d04dd289ae73287c001b42b34507fc55bcaeb168", func := "loop.example/sundials/laws.FnRotaRest", spec := "fnRotaRest", unfollowed := true, recurses := true, apart := false, narrowed := true }
def FnRotaRestUptoSaid : Prop := fnRotaRestUptoRow.holds Try.pinned (OpenSpec.upto fnRotaRestSpec)

/-- 'laws.FnRotaTurn', WHERE WHAT IT READS IS OF BULK AT MOST 1048576: true; the input reads as it did. -/
def fnRotaTurnUptoRow : OpenClaim := { program := "ytoklehmoeollfaa", sum := "c41fad662cdbfa05f0ab7312d04dd289ae73287c001b42b34507fc55bcaeb168", func := "loop.example/sundials/laws.FnRotaTurn", spec := "fnRotaTurn", unfollowed := true, recurses := true, apart := false, narrowed := true }
def FnRotaTurnUptoSaid : Prop := fnRotaTurnUptoRow.holds Try.pinned (OpenSpec.upto fnRotaTurnSpec)

/-- 'laws.FnRotaJoin', WHERE WHAT IT READS IS OF BULK AT MOST 1048576: true; the input reads as it did. -/
def fnRotaJoinUptoRow : OpenClaim := { program := "ytoklehmoeollfaa", sum := "c41fad662cdbfa05f0ab7312d04dd289ae73287c001b42b34507fc55bcaeb168", func := "loop.example/sundials/laws.FnRotaJoin", spec := "fnRotaJoin", unfollowed := true, recurses := true, apart := false, narrowed := true }
def FnRotaJoinUptoSaid : Prop := fnRotaJoinUptoRow.holds Try.pinned (OpenSpec.upto fnRotaJoinSpec)

/-- 'laws.FnLineOk', WHERE WHAT IT READS IS OF BULK AT MOST 1048576: true; the input reads as it did. -/
def fnLineOkUptoRow : OpenClaim := { program := "ytoklehmoeollfaa", sum := "c41fad662cdbfa05f0ab7312d04dd289ae73287c001b42b34507fc55bcaeb168", func := "loop.example/sundials/laws.FnLineOk", spec := "fnLineOk", apart := false, narrowed := true }
def FnLineOkUptoSaid : Prop := fnLineOkUptoRow.holds Try.pinned (OpenSpec.upto fnLineOkSpec)

/-- 'laws.FnLinesMany', WHERE WHAT IT READS IS OF BULK AT MOST 1048576: true; the input reads as it did. -/
def fnLinesManyUptoRow : OpenClaim := { program := "ytoklehmoeollfaa", sum := "c41fad662cdbfa05f0ab7312d04dd289ae73287c001b42b34507fc55bcaeb168", func := "loop.example/sundials/laws.FnLinesMany", spec := "fnLinesMany", apart := false, narrowed := true }
def FnLinesManyUptoSaid : Prop := fnLinesManyUptoRow.holds Try.pinned (OpenSpec.upto fnLinesManySpec)

/-- 'laws.FnLineFirst', WHERE WHAT IT READS IS OF BULK AT MOST 1048576: true; the input reads as it did. -/
def fnLineFirstUptoRow : OpenClaim := { program := "ytoklehmoeollfaa", sum := "c41fad662cdbfa05f0ab7312d04dd289ae73287c001b42b34507fc55bcaeb168", func := "loop.example/sundials/laws.FnLineFirst", spec := "fnLineFirst", apart := false, narrowed := true }
def FnLineFirstUptoSaid : Prop := fnLineFirstUptoRow.holds Try.pinned (OpenSpec.upto fnLineFirstSpec)

end Rows
end Go.Proofs.Ytoklehmoeollfaa
