/-
  No cell of these rows narrows 'for every input' (looked for: loops, veiled, ifaces, maps, wideKeys, modest, calm, conditions, laid).
  DERIVED. THE GIVEN ROWS OF THIS SEAT. 6 by the template 'for every input the law returns true; each argument reads behind the call as it read before'; 0 by the template 'total and deterministic' (their statements: YtkdiognckmjhbaaTotals.lean).
  GIVEN WITH THE SEED: the statements are not yours to turn. If you find one false, say at which input.
  Laid BY PROGRAM, IN A SANDBOX (cutbox-rows.mjs): the forced cells as the released guide's own fill.sh prints them over the translation bd4af21086de4268… (all of the seat's roots in one cut). By AI agents, Wed Nov 11 2026. No macro, syntax, notation, axiom, sorry.
-/
import Derived.Test.YtkdiognckmjhbaaChecked
import GoSem.Claim
import GoSem.ClaimJoined
import GoSem.ClaimMapViews
import Derived.JoinedTies
import Derived.KernelRfl
namespace Go.Proofs.Ytkdiognckmjhbaa
/- THE CELL 'sum', in the pinned program and in every row, IS THE sha256 OF THE DUMP (.gsa) THAT YtkdiognckmjhbaaProg.lean LOADS. Nothing in Lean hashes anything: it is a label: what it is worth is what the hold of that sum in a sandbox is worth. -/
noncomputable def Try.pinned : Pinned := { name := "ytkdiognckmjhbaa", sum := "bd4af21086de4268a9ac4b5043b14d934fca1692d6ea9869cc74e8e9263a5695", checked := Try.checked }
namespace Rows
def none {H : Type} : Left H := { results := [], args := [] }

/-- 'laws.FnExactRotaValid': WHATEVER THE INPUT: true; the input reads as it did. -/
def fnExactRotaValidSpec : ChangeSpec := { name := "fnExactRotaValid", fn := fun _ => fun
  | [d] => { results := [.lit (.bool true)], args := [d] }
  | _ => none }
def fnExactRotaValidRow : OpenClaim := { program := "ytkdiognckmjhbaa", sum := "bd4af21086de4268a9ac4b5043b14d934fca1692d6ea9869cc74e8e9263a5695", func := "loop.example/sundials/laws.FnExactRotaValid", spec := "fnExactRotaValid", unfollowed := true, recurses := true, apart := false }
def FnExactRotaValidSaid : Prop := fnExactRotaValidRow.holds Try.pinned (OpenSpec.ofChange fnExactRotaValidSpec)

/-- ITS FALSE NEIGHBOUR: 'it returns false'. Refute it at one input. -/
def fnExactRotaValidWrong : ChangeSpec := { name := "fnExactRotaValid", fn := fun _ => fun
  | [d] => { results := [.lit (.bool false)], args := [d] }
  | _ => none }
def FnExactRotaValidWrongFalsely : Prop := fnExactRotaValidRow.holds Try.pinned (OpenSpec.ofChange fnExactRotaValidWrong)

/-- 'laws.FnExactRotaRest': WHATEVER THE INPUT: true; the input reads as it did. -/
def fnExactRotaRestSpec : ChangeSpec := { name := "fnExactRotaRest", fn := fun _ => fun
  | [d] => { results := [.lit (.bool true)], args := [d] }
  | _ => none }
def fnExactRotaRestRow : OpenClaim := { program := "ytkdiognckmjhbaa", sum := "bd4af21086de4268a9ac4b5043b14d934fca1692d6ea9869cc74e8e9263a5695", func := "loop.example/sundials/laws.FnExactRotaRest", spec := "fnExactRotaRest", unfollowed := true, recurses := true, apart := false }
def FnExactRotaRestSaid : Prop := fnExactRotaRestRow.holds Try.pinned (OpenSpec.ofChange fnExactRotaRestSpec)

/-- ITS FALSE NEIGHBOUR: 'it returns false'. Refute it at one input. -/
def fnExactRotaRestWrong : ChangeSpec := { name := "fnExactRotaRest", fn := fun _ => fun
  | [d] => { results := [.lit (.bool false)], args := [d] }
  | _ => none }
def FnExactRotaRestWrongFalsely : Prop := fnExactRotaRestRow.holds Try.pinned (OpenSpec.ofChange fnExactRotaRestWrong)

/-- 'laws.FnExactRotaTurn': WHATEVER THE INPUT: true; the input reads as it did. -/
def fnExactRotaTurnSpec : ChangeSpec := { name := "fnExactRotaTurn", fn := fun _ => fun
  | [d1, d2] => { results := [.lit (.bool true)], args := [d1, d2] }
  | _ => none }
def fnExactRotaTurnRow : OpenClaim := { program := "ytkdiognckmjhbaa", sum := "bd4af21086de4268a9ac4b5043b14d934fca1692d6ea9869cc74e8e9263a5695", func := "loop.example/sundials/laws.FnExactRotaTurn", spec := "fnExactRotaTurn", apart := false }
def FnExactRotaTurnSaid : Prop := fnExactRotaTurnRow.holds Try.pinned (OpenSpec.ofChange fnExactRotaTurnSpec)

/-- ITS FALSE NEIGHBOUR: 'it returns false'. Refute it at one input. -/
def fnExactRotaTurnWrong : ChangeSpec := { name := "fnExactRotaTurn", fn := fun _ => fun
  | [d1, d2] => { results := [.lit (.bool false)], args := [d1, d2] }
  | _ => none }
def FnExactRotaTurnWrongFalsely : Prop := fnExactRotaTurnRow.holds Try.pinned (OpenSpec.ofChange fnExactRotaTurnWrong)

/-- 'laws.FnExactRotaJoin': WHATEVER THE INPUT: true; the input reads as it did. -/
def fnExactRotaJoinSpec : ChangeSpec := { name := "fnExactRotaJoin", fn := fun _ => fun
  | [d1, d2] => { results := [.lit (.bool true)], args := [d1, d2] }
  | _ => none }
def fnExactRotaJoinRow : OpenClaim := { program := "ytkdiognckmjhbaa", sum := "bd4af21086de4268a9ac4b5043b14d934fca1692d6ea9869cc74e8e9263a5695", func := "loop.example/sundials/laws.FnExactRotaJoin", spec := "fnExactRotaJoin", unfollowed := true, recurses := true, apart := false }
def FnExactRotaJoinSaid : Prop := fnExactRotaJoinRow.holds Try.pinned (OpenSpec.ofChange fnExactRotaJoinSpec)

/-- ITS FALSE NEIGHBOUR: 'it returns false'. Refute it at one input. -/
def fnExactRotaJoinWrong : ChangeSpec := { name := "fnExactRotaJoin", fn := fun _ => fun
  | [d1, d2] => { results := [.lit (.bool false)], args := [d1, d2] }
  | _ => none }
def FnExactRotaJoinWrongFalsely : Prop := fnExactRotaJoinRow.holds Try.pinned (OpenSpec.ofChange fnExactRotaJoinWrong)

/-- 'laws.FnExactLinesMany': WHATEVER THE INPUT: true; the input reads as it did. -/
def fnExactLinesManySpec : ChangeSpec := { name := "fnExactLinesMany", fn := fun _ => fun
  | [d] => { results := [.lit (.bool true)], args := [d] }
  | _ => none }
def fnExactLinesManyRow : OpenClaim := { program := "ytkdiognckmjhbaa", sum := "bd4af21086de4268a9ac4b5043b14d934fca1692d6ea9869cc74e8e9263a5695", func := "loop.example/sundials/laws.FnExactLinesMany", spec := "fnExactLinesMany", apart := false }
def FnExactLinesManySaid : Prop := fnExactLinesManyRow.holds Try.pinned (OpenSpec.ofChange fnExactLinesManySpec)

/-- ITS FALSE NEIGHBOUR: 'it returns false'. Refute it at one input. -/
def fnExactLinesManyWrong : ChangeSpec := { name := "fnExactLinesMany", fn := fun _ => fun
  | [d] => { results := [.lit (.bool false)], args := [d] }
  | _ => none }
def FnExactLinesManyWrongFalsely : Prop := fnExactLinesManyRow.holds Try.pinned (OpenSpec.ofChange fnExactLinesManyWrong)

/-- 'laws.FnExactLineFirst': WHATEVER THE INPUT: true; the input reads as it did. -/
def fnExactLineFirstSpec : ChangeSpec := { name := "fnExactLineFirst", fn := fun _ => fun
  | [d] => { results := [.lit (.bool true)], args := [d] }
  | _ => none }
def fnExactLineFirstRow : OpenClaim := { program := "ytkdiognckmjhbaa", sum := "bd4af21086de4268a9ac4b5043b14d934fca1692d6ea9869cc74e8e9263a5695", func := "loop.example/sundials/laws.FnExactLineFirst", spec := "fnExactLineFirst", apart := false }
def FnExactLineFirstSaid : Prop := fnExactLineFirstRow.holds Try.pinned (OpenSpec.ofChange fnExactLineFirstSpec)

/-- ITS FALSE NEIGHBOUR: 'it returns false'. Refute it at one input. -/
def fnExactLineFirstWrong : ChangeSpec := { name := "fnExactLineFirst", fn := fun _ => fun
  | [d] => { results := [.lit (.bool false)], args := [d] }
  | _ => none }
def FnExactLineFirstWrongFalsely : Prop := fnExactLineFirstRow.holds Try.pinned (OpenSpec.ofChange fnExactLineFirstWrong)

/- THE SECOND FORM. 'bulk': how many values and letters a reading holds, each counted each time it is reached (what is shared counts as often as it is met; a slice's spare places count too). A statement '..UptoSaid' is the law's where the arguments, and the package variables that the reading takes, are together of bulk at most 1048576: NARROWER than '..Said'. Prove '..Said' where nothing that the law and all that it calls make is longer than what came in: it says more and counts as full. Else prove '..UptoSaid'. A law counts once. -/
mutual
def uptoBulk {H : Type} : DataW H → Nat
  | .lit (.string bytes) => bytes.length + 1
  | .lit _ => 1
  | .nil => 1
  | .ptr d => uptoBulk d + 1
  | .slice elems spare => uptoBulkAll elems + uptoBulkAll spare + 1
  | .agg parts => uptoBulkAll parts + 1
  | .iface _ d => uptoBulk d + 1
  | .map entries => uptoBulkEntries entries + 1
  | .held _ => 1
def uptoBulkAll {H : Type} : List (DataW H) → Nat
  | [] => 0
  | d :: r => uptoBulk d + uptoBulkAll r
def uptoBulkEntries {H : Type} : List (Lit × DataW H) → Nat
  | [] => 0
  | x :: r => uptoBulkEntry x + uptoBulkEntries r
def uptoBulkEntry {H : Type} : Lit × DataW H → Nat
  | (.string bytes, d) => bytes.length + uptoBulk d + 1
  | (_, d) => uptoBulk d + 1
 end
def uptoSmall : (H : Type) → List (DataW H) → Bool := fun _ ds => decide (uptoBulkAll ds ≤ 1048576)
def OpenSpec.upto (s : _root_.Go.ChangeSpec) : _root_.Go.OpenSpec := { _root_.Go.OpenSpec.ofChange s with cond := some uptoSmall }

/-- 'laws.FnExactRotaValid', WHERE WHAT IT READS IS OF BULK AT MOST 1048576: true; the input reads as it did. -/
def fnExactRotaValidUptoRow : OpenClaim := { program := "ytkdiognckmjhbaa", sum := "bd4af21086de4268a9ac4b5043b14d934fca1692d6ea9869cc74e8e9263a5695", func := "loop.example/sundials/laws.FnExactRotaValid", spec := "fnExactRotaValid", unfollowed := true, recurses := true, apart := false, narrowed := true }
def FnExactRotaValidUptoSaid : Prop := fnExactRotaValidUptoRow.holds Try.pinned (OpenSpec.upto fnExactRotaValidSpec)

/-- 'laws.FnExactRotaRest', WHERE WHAT IT READS IS OF BULK AT MOST 1048576: true; the input reads as it did. -/
def fnExactRotaRestUptoRow : OpenClaim := { program := "ytkdiognckmjhbaa", sum := "bd4af21086de4268a9ac4b5043b14d934fca1692d6ea9869cc74e8e9263a5695", func := "loop.example/sundials/laws.FnExactRotaRest", spec := "fnExactRotaRest", unfollowed := true, recurses := true, apart := false, narrowed := true }
def FnExactRotaRestUptoSaid : Prop := fnExactRotaRestUptoRow.holds Try.pinned (OpenSpec.upto fnExactRotaRestSpec)

/-- 'laws.FnExactRotaTurn', WHERE WHAT IT READS IS OF BULK AT MOST 1048576: true; the input reads as it did. -/
def fnExactRotaTurnUptoRow : OpenClaim := { program := "ytkdiognckmjhbaa", sum := "bd4af21086de4268a9ac4b5043b14d934fca1692d6ea9869cc74e8e9263a5695", func := "loop.example/sundials/laws.FnExactRotaTurn", spec := "fnExactRotaTurn", apart := false, narrowed := true }
def FnExactRotaTurnUptoSaid : Prop := fnExactRotaTurnUptoRow.holds Try.pinned (OpenSpec.upto fnExactRotaTurnSpec)

/-- 'laws.FnExactRotaJoin', WHERE WHAT IT READS IS OF BULK AT MOST 1048576: true; the input reads as it did. -/
def fnExactRotaJoinUptoRow : OpenClaim := { program := "ytkdiognckmjhbaa", sum := "bd4af21086de4268a9ac4b5043b14d934fca1692d6ea9869cc74e8e9263a5695", func := "loop.example/sundials/laws.FnExactRotaJoin", spec := "fnExactRotaJoin", unfollowed := true, recurses := true, apart := false, narrowed := true }
def FnExactRotaJoinUptoSaid : Prop := fnExactRotaJoinUptoRow.holds Try.pinned (OpenSpec.upto fnExactRotaJoinSpec)

/-- 'laws.FnExactLinesMany', WHERE WHAT IT READS IS OF BULK AT MOST 1048576: true; the input reads as it did. -/
def fnExactLinesManyUptoRow : OpenClaim := { program := "ytkdiognckmjhbaa", sum := "bd4af21086de4268a9ac4b5043b14d934fca1692d6ea9869cc74e8e9263a5695", func := "loop.example/sundials/laws.FnExactLinesMany", spec := "fnExactLinesMany", apart := false, narrowed := true }
def FnExactLinesManyUptoSaid : Prop := fnExactLinesManyUptoRow.holds Try.pinned (OpenSpec.upto fnExactLinesManySpec)

/-- 'laws.FnExactLineFirst', WHERE WHAT IT READS IS OF BULK AT MOST 1048576: true; the input reads as it did. -/
def fnExactLineFirstUptoRow : OpenClaim := { program := "ytkdiognckmjhbaa", sum := "bd4af21086de4268a9ac4b5043b14d934fca1692d6ea9869cc74e8e9263a5695", func := "loop.example/sundials/laws.FnExactLineFirst", spec := "fnExactLineFirst", apart := false, narrowed := true }
def FnExactLineFirstUptoSaid : Prop := fnExactLineFirstUptoRow.holds Try.pinned (OpenSpec.upto fnExactLineFirstSpec)

end Rows
end Go.Proofs.Ytkdiognckmjhbaa
