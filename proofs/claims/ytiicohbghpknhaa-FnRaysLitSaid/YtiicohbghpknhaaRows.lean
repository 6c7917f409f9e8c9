/-
  No cell of these rows narrows 'for every input' (looked for: loops, veiled, ifaces, maps, wideKeys, modest, calm, conditions, laid).
  DERIVED. THE GIVEN ROWS OF THIS SEAT. 3 by the template 'for every input the law returns true; each argument reads behind the call as it read before'; 0 by the template 'total and deterministic' (their statements: YtiicohbghpknhaaTotals.lean).
  GIVEN WITH THE SEED: the statements are not yours to turn. If you find one false, say at which input.
  Laid BY PROGRAM, IN A SANDBOX (cutbox-rows.mjs): the forced cells as the released guide's own fill.sh prints them over the translation ee74e5e077ef5ea8… (all of the seat's roots in one cut). By AI agents, Wed Nov 11 2026. No macro, syntax, notation, axiom, sorry.
-/
import Derived.Test.YtiicohbghpknhaaChecked
import GoSem.Claim
import GoSem.ClaimJoined
import GoSem.ClaimMapViews
import Derived.JoinedTies
import Derived.KernelRfl
namespace Go.Proofs.Ytiicohbghpknhaa
/- THE CELL 'sum', in the pinned program and in every row, IS THE sha256 OF THE DUMP (.gsa) THAT YtiicohbghpknhaaProg.lean LOADS. Nothing in Lean hashes anything: it is a label: what it is worth is what the hold of that sum in a sandbox is worth. -/
noncomputable def Try.pinned : Pinned := { name := "ytiicohbghpknhaa", sum := "ee74e5e077ef5ea821f7f5d4be1b4510bf86256372cf48180a3a06ceeea6afd1", checked := Try.checked }
namespace Rows
def none {H : Type} : Left H := { results := [], args := [] }

/-- 'laws.FnExactPlateTurn': WHATEVER THE INPUT: true; the input reads as it did. -/
def fnExactPlateTurnSpec : ChangeSpec := { name := "fnExactPlateTurn", fn := fun _ => fun
  | [d] => { results := [.lit (.bool true)], args := [d] }
  | _ => none }
def fnExactPlateTurnRow : OpenClaim := { program := "ytiicohbghpknhaa", sum := "ee74e5e077ef5ea821f7f5d4be1b4510bf86256372cf48180a3a06ceeea6afd1", func := "loop.example/sundials/laws.FnExactPlateTurn", spec := "fnExactPlateTurn", unfollowed := true, recurses := true, apart := false }
def FnExactPlateTurnSaid : Prop := fnExactPlateTurnRow.holds Try.pinned (OpenSpec.ofChange fnExactPlateTurnSpec)

/-- ITS FALSE NEIGHBOUR: 'it returns false'. Refute it at one input. -/
def fnExactPlateTurnWrong : ChangeSpec := { name := "fnExactPlateTurn", fn := fun _ => fun
  | [d] => { results := [.lit (.bool false)], args := [d] }
  | _ => none }
def FnExactPlateTurnWrongFalsely : Prop := fnExactPlateTurnRow.holds Try.pinned (OpenSpec.ofChange fnExactPlateTurnWrong)

/-- 'laws.FnPlateTurn': WHATEVER THE INPUT: true; the input reads as it did. -/
def fnPlateTurnSpec : ChangeSpec := { name := "fnPlateTurn", fn := fun _ => fun
  | [d] => { results := [.lit (.bool true)], args := [d] }
  | _ => none }
def fnPlateTurnRow : OpenClaim := { program := "ytiicohbghpknhaa", sum := "ee74e5e077ef5ea821f7f5d4be1b4510bf86256372cf48180a3a06ceeea6afd1", func := "loop.example/sundials/laws.FnPlateTurn", spec := "fnPlateTurn", unfollowed := true, recurses := true, apart := false }
def FnPlateTurnSaid : Prop := fnPlateTurnRow.holds Try.pinned (OpenSpec.ofChange fnPlateTurnSpec)

/-- ITS FALSE NEIGHBOUR: 'it returns false'. Refute it at one input. -/
def fnPlateTurnWrong : ChangeSpec := { name := "fnPlateTurn", fn := fun _ => fun
  | [d] => { results := [.lit (.bool false)], args := [d] }
  | _ => none }
def FnPlateTurnWrongFalsely : Prop := fnPlateTurnRow.holds Try.pinned (OpenSpec.ofChange fnPlateTurnWrong)

/-- 'laws.FnRaysLit': WHATEVER THE INPUT: true; the input reads as it did. -/
def fnRaysLitSpec : ChangeSpec := { name := "fnRaysLit", fn := fun _ => fun
  | [d] => { results := [.lit (.bool true)], args := [d] }
  | _ => none }
def fnRaysLitRow : OpenClaim := { program := "ytiicohbghpknhaa", sum := "ee74e5e077ef5ea821f7f5d4be1b4510bf86256372cf48180a3a06ceeea6afd1", func := "loop.example/sundials/laws.FnRaysLit", spec := "fnRaysLit", unfollowed := true, recurses := true, apart := false }
def FnRaysLitSaid : Prop := fnRaysLitRow.holds Try.pinned (OpenSpec.ofChange fnRaysLitSpec)

/-- ITS FALSE NEIGHBOUR: 'it returns false'. Refute it at one input. -/
def fnRaysLitWrong : ChangeSpec := { name := "fnRaysLit", fn := fun _ => fun
  | [d] => { results := [.lit (.bool false)], args := [d] }
  | _ => none }
def FnRaysLitWrongFalsely : Prop := fnRaysLitRow.holds Try.pinned (OpenSpec.ofChange fnRaysLitWrong)

/- THE SECOND FORM. 'bulk': how many values and letters a reading holds, each counted each time it is reached (what is shared counts as often as it is met; a slice's spare places count too). A statement '..UptoSaid' is the law's where the arguments, and the package variables that the reading takes, are together of bulk at most 1048576: NARROWER than '..Said'. Prove '..Said' where nothing that the law and all that it calls make is longer than what came in: it says more and counts as full. Else prove '..UptoSaid'. A law counts once. -/
mutual
def uptoBulk {H : Type} : DataW H → Nat
  | .lit (.string bytes) => bytes.length + 1
  | .lit _ => 1
  | .nil => 1
  | .ptr d => uptoBulk d + 1
  | .slice elems spare => uptoBulkAll elems + uptoBulkAll spare + 1
  | .agg parts => uptoBulkAll parts + 1
  | .iface _ d => uptoBulk d + 1
  | .map entries => uptoBulkEntries entries + 1
  | .held _ => 1
def uptoBulkAll {H : Type} : List (DataW H) → Nat
  | [] => 0
  | d :: r => uptoBulk d + uptoBulkAll r
def uptoBulkEntries {H : Type} : List (Lit × DataW H) → Nat
  | [] => 0
  | x :: r => uptoBulkEntry x + uptoBulkEntries r
def uptoBulkEntry {H : Type} : Lit × DataW H → Nat
  | (.string bytes, d) => bytes.length + uptoBulk d + 1
  | (_, d) => uptoBulk d + 1
 end
def uptoSmall : (H : Type) → List (DataW H) → Bool := fun _ ds => decide (uptoBulkAll ds ≤ 1048576)
def OpenSpec.upto (s : _root_.Go.ChangeSpec) : _root_.Go.OpenSpec := { _root_.Go.OpenSpec.ofChange s with cond := some uptoSmall }

/-- 'laws.FnExactPlateTurn', WHERE WHAT IT READS IS OF BULK AT MOST 1048576: true; the input reads as it did. -/
def fnExactPlateTurnUptoRow : OpenClaim := { program := "ytiicohbghpknhaa", sum := "ee74e5e077ef5ea821f7f5d4be1b4510bf86256372cf48180a3a06ceeea6afd1", func := "loop.example/sundials/laws.FnExactPlateTurn", spec := "fnExactPlateTurn", unfollowed := true, recurses := true, apart := false, narrowed := true }
def FnExactPlateTurnUptoSaid : Prop := fnExactPlateTurnUptoRow.holds Try.pinned (OpenSpec.upto fnExactPlateTurnSpec)

/-- 'laws.FnPlateTurn', WHERE WHAT IT READS IS OF BULK AT MOST 1048576: true; the input reads as it did. -/
def fnPlateTurnUptoRow : OpenClaim := { program := "ytiicohbghpknhaa", sum := "ee74e5e077ef5ea821f7f5d4be1b4510bf86256372cf48180a3a06ceeea6afd1", func := "loop.example/sundials/laws.FnPlateTurn", spec := "fnPlateTurn", unfollowed := true, recurses := true, apart := false, narrowed := true }
def FnPlateTurnUptoSaid : Prop := fnPlateTurnUptoRow.holds Try.pinned (OpenSpec.upto fnPlateTurnSpec)

/-- 'laws.FnRaysLit', WHERE WHAT IT READS IS OF BULK AT MOST 1048576: true; the input reads as it did. -/
def fnRaysLitUptoRow : OpenClaim := { program := "ytiicohbghpknhaa", sum := "ee74e5e077ef5ea821f7f5d4be1b4510bf86256372cf48180a3a06ceeea6afd1", func := "loop.example/sundials/laws.FnRaysLit", spec := "fnRaysLit", unfollowed := true, recurses := true, apart := false, narrowed := true }
def FnRaysLitUptoSaid : Prop := fnRaysLitUptoRow.holds Try.pinned (OpenSpec.upto fnRaysLitSpec)

end Rows
end Go.Proofs.Ytiicohbghpknhaa
