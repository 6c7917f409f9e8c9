/-
  No cell of these rows narrows 'for every input' (looked for: loops, veiled, ifaces, maps, wideKeys, modest, calm, conditions, laid).
  DERIVED. THE GIVEN ROWS OF THIS SEAT. 8 by the template 'for every input the law returns true; each argument reads behind the call as it read before'; 0 by the template 'total and deterministic' (their statements: YtgkdfckaobfckabTotals.lean).
  GIVEN WITH THE SEED: the statements are not yours to turn. If you find one false, say at which input.
  Laid BY PROGRAM, IN A SANDBOX (cutbox-rows.mjs): the forced cells as the released guide's own fill.sh prints them over the translation 84784051848ea8e8… (all of the seat's roots in one cut). By AI agents, Wed Nov 11 2026. No macro, syntax, notation, axiom, sorry.
-/
import Derived.Test.YtgkdfckaobfckabChecked
import GoSem.Claim
import GoSem.ClaimJoined
import GoSem.ClaimMapViews
import Derived.JoinedTies
import Derived.KernelRfl
namespace Go.Proofs.Ytgkdfckaobfckab
/- THE CELL 'sum', in the pinned program and in every row, IS THE sha256 OF THE DUMP (.gsa) THAT YtgkdfckaobfckabProg.lean LOADS. Nothing in Lean hashes anything: it is a label: what it is worth is what the hold of that sum in a sandbox is worth. -/
noncomputable def Try.pinned : Pinned := { name := "ytgkdfckaobfckab", sum := "84784051848ea8e80de2f60f1eda2f278d4a6742b502e12c663600051aa300b2", checked := Try.checked }
namespace Rows
def none {H : Type} : Left H := { results := [], args := [] }

/-- 'laws.FnExactSeen': WHATEVER THE INPUT: true; the input reads as it did. -/
def fnExactSeenSpec : ChangeSpec := { name := "fnExactSeen", fn := fun _ => fun
  | [d] => { results := [.lit (.bool true)], args := [d] }
  | _ => none }
def fnExactSeenRow : OpenClaim := { program := "ytgkdfckaobfckab", sum := "84784051848ea8e80de2f60f1eda2f278d4a6742b502e12c663600051aa300b2", func := "loop.example/sundials/laws.FnExactSeen", spec := "fnExactSeen", apart := false }
def FnExactSeenSaid : Prop := fnExactSeenRow.holds Try.pinned (OpenSpec.ofChange fnExactSeenSpec)

/-- ITS FALSE NEIGHBOUR: 'it returns false'. Refute it at one input. -/
def fnExactSeenWrong : ChangeSpec := { name := "fnExactSeen", fn := fun _ => fun
  | [d] => { results := [.lit (.bool false)], args := [d] }
  | _ => none }
def FnExactSeenWrongFalsely : Prop := fnExactSeenRow.holds Try.pinned (OpenSpec.ofChange fnExactSeenWrong)

/-- 'laws.FnExactHousesValid': WHATEVER THE INPUT: true; the input reads as it did. -/
def fnExactHousesValidSpec : ChangeSpec := { name := "fnExactHousesValid", fn := fun _ => fun
  | [d] => { results := [.lit (.bool true)], args := [d] }
  | _ => none }
def fnExactHousesValidRow : OpenClaim := { program := "ytgkdfckaobfckab", sum := "84784051848ea8e80de2f60f1eda2f278d4a6742b502e12c663600051aa300b2", func := "loop.example/sundials/laws.FnExactHousesValid", spec := "fnExactHousesValid", unfollowed := true, recurses := true, apart := false }
def FnExactHousesValidSaid : Prop := fnExactHousesValidRow.holds Try.pinned (OpenSpec.ofChange fnExactHousesValidSpec)

/-- ITS FALSE NEIGHBOUR: 'it returns false'. Refute it at one input. -/
def fnExactHousesValidWrong : ChangeSpec := { name := "fnExactHousesValid", fn := fun _ => fun
  | [d] => { results := [.lit (.bool false)], args := [d] }
  | _ => none }
def FnExactHousesValidWrongFalsely : Prop := fnExactHousesValidRow.holds Try.pinned (OpenSpec.ofChange fnExactHousesValidWrong)

/-- 'laws.FnExactHousesAt': WHATEVER THE INPUT: true; the input reads as it did. -/
def fnExactHousesAtSpec : ChangeSpec := { name := "fnExactHousesAt", fn := fun _ => fun
  | [d1, d2] => { results := [.lit (.bool true)], args := [d1, d2] }
  | _ => none }
def fnExactHousesAtRow : OpenClaim := { program := "ytgkdfckaobfckab", sum := "84784051848ea8e80de2f60f1eda2f278d4a6742b502e12c663600051aa300b2", func := "loop.example/sundials/laws.FnExactHousesAt", spec := "fnExactHousesAt", unfollowed := true, recurses := true, apart := false }
def FnExactHousesAtSaid : Prop := fnExactHousesAtRow.holds Try.pinned (OpenSpec.ofChange fnExactHousesAtSpec)

/-- ITS FALSE NEIGHBOUR: 'it returns false'. Refute it at one input. -/
def fnExactHousesAtWrong : ChangeSpec := { name := "fnExactHousesAt", fn := fun _ => fun
  | [d1, d2] => { results := [.lit (.bool false)], args := [d1, d2] }
  | _ => none }
def FnExactHousesAtWrongFalsely : Prop := fnExactHousesAtRow.holds Try.pinned (OpenSpec.ofChange fnExactHousesAtWrong)

/-- 'laws.FnExactOutlineValid': WHATEVER THE INPUT: true; the input reads as it did. -/
def fnExactOutlineValidSpec : ChangeSpec := { name := "fnExactOutlineValid", fn := fun _ => fun
  | [d] => { results := [.lit (.bool true)], args := [d] }
  | _ => none }
def fnExactOutlineValidRow : OpenClaim := { program := "ytgkdfckaobfckab", sum := "84784051848ea8e80de2f60f1eda2f278d4a6742b502e12c663600051aa300b2", func := "loop.example/sundials/laws.FnExactOutlineValid", spec := "fnExactOutlineValid", apart := false }
def FnExactOutlineValidSaid : Prop := fnExactOutlineValidRow.holds Try.pinned (OpenSpec.ofChange fnExactOutlineValidSpec)

/-- ITS FALSE NEIGHBOUR: 'it returns false'. Refute it at one input. -/
def fnExactOutlineValidWrong : ChangeSpec := { name := "fnExactOutlineValid", fn := fun _ => fun
  | [d] => { results := [.lit (.bool false)], args := [d] }
  | _ => none }
def FnExactOutlineValidWrongFalsely : Prop := fnExactOutlineValidRow.holds Try.pinned (OpenSpec.ofChange fnExactOutlineValidWrong)

/-- 'laws.FnExactOutlineOf': WHATEVER THE INPUT: true; the input reads as it did. -/
def fnExactOutlineOfSpec : ChangeSpec := { name := "fnExactOutlineOf", fn := fun _ => fun
  | [d] => { results := [.lit (.bool true)], args := [d] }
  | _ => none }
def fnExactOutlineOfRow : OpenClaim := { program := "ytgkdfckaobfckab", sum := "84784051848ea8e80de2f60f1eda2f278d4a6742b502e12c663600051aa300b2", func := "loop.example/sundials/laws.FnExactOutlineOf", spec := "fnExactOutlineOf", unfollowed := true, recurses := true, apart := false }
def FnExactOutlineOfSaid : Prop := fnExactOutlineOfRow.holds Try.pinned (OpenSpec.ofChange fnExactOutlineOfSpec)

/-- ITS FALSE NEIGHBOUR: 'it returns false'. Refute it at one input. -/
def fnExactOutlineOfWrong : ChangeSpec := { name := "fnExactOutlineOf", fn := fun _ => fun
  | [d] => { results := [.lit (.bool false)], args := [d] }
  | _ => none }
def FnExactOutlineOfWrongFalsely : Prop := fnExactOutlineOfRow.holds Try.pinned (OpenSpec.ofChange fnExactOutlineOfWrong)

/-- 'laws.FnExactOutlineAt': WHATEVER THE INPUT: true; the input reads as it did. -/
def fnExactOutlineAtSpec : ChangeSpec := { name := "fnExactOutlineAt", fn := fun _ => fun
  | [d1, d2] => { results := [.lit (.bool true)], args := [d1, d2] }
  | _ => none }
def fnExactOutlineAtRow : OpenClaim := { program := "ytgkdfckaobfckab", sum := "84784051848ea8e80de2f60f1eda2f278d4a6742b502e12c663600051aa300b2", func := "loop.example/sundials/laws.FnExactOutlineAt", spec := "fnExactOutlineAt", apart := false }
def FnExactOutlineAtSaid : Prop := fnExactOutlineAtRow.holds Try.pinned (OpenSpec.ofChange fnExactOutlineAtSpec)

/-- ITS FALSE NEIGHBOUR: 'it returns false'. Refute it at one input. -/
def fnExactOutlineAtWrong : ChangeSpec := { name := "fnExactOutlineAt", fn := fun _ => fun
  | [d1, d2] => { results := [.lit (.bool false)], args := [d1, d2] }
  | _ => none }
def FnExactOutlineAtWrongFalsely : Prop := fnExactOutlineAtRow.holds Try.pinned (OpenSpec.ofChange fnExactOutlineAtWrong)

/-- 'laws.FnExactOutlineJoin': WHATEVER THE INPUT: true; the input reads as it did. -/
def fnExactOutlineJoinSpec : ChangeSpec := { name := "fnExactOutlineJoin", fn := fun _ => fun
  | [d1, d2] => { results := [.lit (.bool true)], args := [d1, d2] }
  | _ => none }
def fnExactOutlineJoinRow : OpenClaim := { program := "ytgkdfckaobfckab", sum := "84784051848ea8e80de2f60f1eda2f278d4a6742b502e12c663600051aa300b2", func := "loop.example/sundials/laws.FnExactOutlineJoin", spec := "fnExactOutlineJoin", unfollowed := true, recurses := true, apart := false }
def FnExactOutlineJoinSaid : Prop := fnExactOutlineJoinRow.holds Try.pinned (OpenSpec.ofChange fnExactOutlineJoinSpec)

/-- ITS FALSE NEIGHBOUR: 'it returns false'. Refute it at one input. -/
def fnExactOutlineJoinWrong : ChangeSpec := { name := "fnExactOutlineJoin", fn := fun _ => fun
  | [d1, d2] => { results := [.lit (.bool false)], args := [d1, d2] }
  | _ => none }
def FnExactOutlineJoinWrongFalsely : Prop := fnExactOutlineJoinRow.holds Try.pinned (OpenSpec.ofChange fnExactOutlineJoinWrong)

/-- 'laws.FnExactOutlineArea': WHATEVER THE INPUT: true; the input reads as it did. -/
def fnExactOutlineAreaSpec : ChangeSpec := { name := "fnExactOutlineArea", fn := fun _ => fun
  | [d] => { results := [.lit (.bool true)], args := [d] }
  | _ => none }
def fnExactOutlineAreaRow : OpenClaim := { program := "ytgkdfckaobfckab", sum := "84784051848ea8e80de2f60f1eda2f278d4a6742b502e12c663600051aa300b2", func := "loop.example/sundials/laws.FnExactOutlineArea", spec := "fnExactOutlineArea", apart := false }
def FnExactOutlineAreaSaid : Prop := fnExactOutlineAreaRow.holds Try.pinned (OpenSpec.ofChange fnExactOutlineAreaSpec)

/-- ITS FALSE NEIGHBOUR: 'it returns false'. Refute it at one input. -/
def fnExactOutlineAreaWrong : ChangeSpec := { name := "fnExactOutlineArea", fn := fun _ => fun
  | [d] => { results := [.lit (.bool false)], args := [d] }
  | _ => none }
def FnExactOutlineAreaWrongFalsely : Prop := fnExactOutlineAreaRow.holds Try.pinned (OpenSpec.ofChange fnExactOutlineAreaWrong)

/- THE SECOND FORM. 'bulk': how many values and letters a reading holds, each counted each time it is reached (what is shared counts as often as it is met; a slice's spare places count too). A statement '..UptoSaid' is the law's where the arguments, and the package variables that the reading takes, are together of bulk at most 1048576: NARROWER than '..Said'. Prove '..Said' where nothing that the law and all that it calls make is longer than what came in: it says more and counts as full. Else prove '..UptoSaid'. A law counts once. -/
mutual
def uptoBulk {H : Type} : DataW H → Nat
  | .lit (.string bytes) => bytes.length + 1
  | .lit _ => 1
  | .nil => 1
  | .ptr d => uptoBulk d + 1
  | .slice elems spare => uptoBulkAll elems + uptoBulkAll spare + 1
  | .agg parts => uptoBulkAll parts + 1
  | .iface _ d => uptoBulk d + 1
  | .map entries => uptoBulkEntries entries + 1
  | .held _ => 1
def uptoBulkAll {H : Type} : List (DataW H) → Nat
  | [] => 0
  | d :: r => uptoBulk d + uptoBulkAll r
def uptoBulkEntries {H : Type} : List (Lit × DataW H) → Nat
  | [] => 0
  | x :: r => uptoBulkEntry x + uptoBulkEntries r
def uptoBulkEntry {H : Type} : Lit × DataW H → Nat
  | (.string bytes, d) => bytes.length + uptoBulk d + 1
  | (_, d) => uptoBulk d + 1
 end
def uptoSmall : (H : Type) → List (DataW H) → Bool := fun _ ds => decide (uptoBulkAll ds ≤ 1048576)
def OpenSpec.upto (s : _root_.Go.ChangeSpec) : _root_.Go.OpenSpec := { _root_.Go.OpenSpec.ofChange s with cond := some uptoSmall }

/-- 'laws.FnExactSeen', WHERE WHAT IT READS IS OF BULK AT MOST 1048576: true; the input reads as it did. -/
def fnExactSeenUptoRow : OpenClaim := { program := "ytgkdfckaobfckab", sum := "84784051848ea8e80de2f60f1eda2f278d4a6742b502e12c663600051aa300b2", func := "loop.example/sundials/laws.FnExactSeen", spec := "fnExactSeen", apart := false, narrowed := true }
def FnExactSeenUptoSaid : Prop := fnExactSeenUptoRow.holds Try.pinned (OpenSpec.upto fnExactSeenSpec)

/-- 'laws.FnExactHousesValid', WHERE WHAT IT READS IS OF BULK AT MOST 1048576: true; the input reads as it did. -/
def fnExactHousesValidUptoRow : OpenClaim := { program := "ytgkdfckaobfckab", sum := "84784051848ea8e80de2f60f1eda2f278d4a6742b502e12c663600051aa300b2", func := "loop.example/sundials/laws.FnExactHousesValid", spec := "fnExactHousesValid", unfollowed := true, recurses := true, apart := false, narrowed := true }
def FnExactHousesValidUptoSaid : Prop := fnExactHousesValidUptoRow.holds Try.pinned (OpenSpec.upto fnExactHousesValidSpec)

/-- 'laws.FnExactHousesAt', WHERE WHAT IT READS IS OF BULK AT MOST 1048576: true; the input reads as it did. -/
def fnExactHousesAtUptoRow : OpenClaim := { program := "ytgkdfckaobfckab", sum := "84784051848ea8e80de2f60f1eda2f278d4a6742b502e12c663600051aa300b2", func := "loop.example/sundials/laws.FnExactHousesAt", spec := "fnExactHousesAt", unfollowed := true, recurses := true, apart := false, narrowed := true }
def FnExactHousesAtUptoSaid : Prop := fnExactHousesAtUptoRow.holds Try.pinned (OpenSpec.upto fnExactHousesAtSpec)

/-- 'laws.FnExactOutlineValid', WHERE WHAT IT READS IS OF BULK AT MOST 1048576: true; the input reads as it did. -/
def fnExactOutlineValidUptoRow : OpenClaim := { program := "ytgkdfckaobfckab", sum := "84784051848ea8e80de2f60f1eda2f278d4a6742b502e12c663600051aa300b2", func := "loop.example/sundials/laws.FnExactOutlineValid", spec := "fnExactOutlineValid", apart := false, narrowed := true }
def FnExactOutlineValidUptoSaid : Prop := fnExactOutlineValidUptoRow.holds Try.pinned (OpenSpec.upto fnExactOutlineValidSpec)

/-- 'laws.FnExactOutlineOf', WHERE WHAT IT READS IS OF BULK AT MOST 1048576: true; the input reads as it did. -/
def fnExactOutlineOfUptoRow : OpenClaim := { program := "ytgkdfckaobfckab", sum := "84784051848ea8e80de2f60f1eda2f278d4a6742b502e12c663600051aa300b2", func := "loop.example/sundials/laws.FnExactOutlineOf", spec := "fnExactOutlineOf", unfollowed := true, recurses := true, apart := false, narrowed := true }
def FnExactOutlineOfUptoSaid : Prop := fnExactOutlineOfUptoRow.holds Try.pinned (OpenSpec.upto fnExactOutlineOfSpec)

/-- 'laws.FnExactOutlineAt', WHERE WHAT IT READS IS OF BULK AT MOST 1048576: true; the input reads as it did. -/
def fnExactOutlineAtUptoRow : OpenClaim := { program := "ytgkdfckaobfckab", sum := "84784051848ea8e80de2f60f1eda2f278d4a6742b502e12c663600051aa300b2", func := "loop.example/sundials/laws.FnExactOutlineAt", spec := "fnExactOutlineAt", apart := false, narrowed := true }
def FnExactOutlineAtUptoSaid : Prop := fnExactOutlineAtUptoRow.holds Try.pinned (OpenSpec.upto fnExactOutlineAtSpec)

/-- 'laws.FnExactOutlineJoin', WHERE WHAT IT READS IS OF BULK AT MOST 1048576: true; the input reads as it did. -/
def fnExactOutlineJoinUptoRow : OpenClaim := { program := "ytgkdfckaobfckab", sum := "84784051848ea8e80de2f60f1eda2f278d4a6742b502e12c663600051aa300b2", func := "loop.example/sundials/laws.FnExactOutlineJoin", spec := "fnExactOutlineJoin", unfollowed := true, recurses := true, apart := false, narrowed := true }
def FnExactOutlineJoinUptoSaid : Prop := fnExactOutlineJoinUptoRow.holds Try.pinned (OpenSpec.upto fnExactOutlineJoinSpec)

/-- 'laws.FnExactOutlineArea', WHERE WHAT IT READS IS OF BULK AT MOST 1048576: true; the input reads as it did. -/
def fnExactOutlineAreaUptoRow : OpenClaim := { program := "ytgkdfckaobfckab", sum := "84784051848ea8e80de2f60f1eda2f278d4a6742b502e12c663600051aa300b2", func := "loop.example/sundials/laws.FnExactOutlineArea", spec := "fnExactOutlineArea", apart := false, narrowed := true }
def FnExactOutlineAreaUptoSaid : Prop := fnExactOutlineAreaUptoRow.holds Try.pinned (OpenSpec.upto fnExactOutlineAreaSpec)

end Rows
end Go.Proofs.Ytgkdfckaobfckab
