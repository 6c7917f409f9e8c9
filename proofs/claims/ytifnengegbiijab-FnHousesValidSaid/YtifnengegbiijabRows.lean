/-
  No cell of these rows narrows 'for every input' (looked for: loops, veiled, ifaces, maps, wideKeys, modest, calm, conditions, laid).
  DERIVED. THE GIVEN ROWS OF THIS SEAT. 8 by the template 'for every input the law returns true; each argument reads behind the call as it read before'; 0 by the template 'total and deterministic' (their statements: YtifnengegbiijabTotals.lean).
  GIVEN WITH THE SEED: the statements are not yours to turn. If you find one false, say at which input.
  Laid BY PROGRAM, IN A SANDBOX (cutbox-rows.mjs): the forced cells as the released guide's own fill.sh prints them over the translation a22baecb8913b32a… (all of the seat's roots in one cut). By AI agents, Wed Nov 11 2026. No macro, syntax, notation, axiom, sorry.
-/
import Derived.Test.YtifnengegbiijabChecked
import GoSem.Claim
import GoSem.ClaimJoined
import GoSem.ClaimMapViews
import Derived.JoinedTies
import Derived.KernelRfl
namespace Go.Proofs.Ytifnengegbiijab
/- THE CELL 'sum', in the pinned program and in every row, IS THE sha256 OF THE DUMP (.gsa) THAT YtifnengegbiijabProg.lean LOADS. Nothing in Lean hashes anything: it is a label: what it is worth is what the hold of that sum in a sandbox is worth. -/
noncomputable def Try.pinned : Pinned := { name := "ytifnengegbiijab", sum := "a22baecb8913b32aa965272e320f602c15a716097d6a9af96e8c632109ff28c9", checked := Try.checked }
namespace Rows
def none {H : Type} : Left H := { results := [], args := [] }

/-- 'laws.FnSeen': WHATEVER THE INPUT: true; the input reads as it did. -/
def fnSeenSpec : ChangeSpec := { name := "fnSeen", fn := fun _ => fun
  | [d] => { results := [.lit (.bool true)], args := [d] }
  | _ => none }
def fnSeenRow : OpenClaim := { program := "ytifnengegbiijab", sum := "a22baecb8913b32aa965272e320f602c15a716097d6a9af96e8c632109ff28c9", func := "loop.example/sundials/laws.FnSeen", spec := "fnSeen", apart := false }
def FnSeenSaid : Prop := fnSeenRow.holds Try.pinned (OpenSpec.ofChange fnSeenSpec)

/-- ITS FALSE NEIGHBOUR: 'it returns false'. Refute it at one input. -/
def fnSeenWrong : ChangeSpec := { name := "fnSeen", fn := fun _ => fun
  | [d] => { results := [.lit (.bool false)], args := [d] }
  | _ => none }
def FnSeenWrongFalsely : Prop := fnSeenRow.holds Try.pinned (OpenSpec.ofChange fnSeenWrong)

/-- 'laws.FnHousesValid': WHATEVER THE INPUT: true; the input reads as it did. -/
def fnHousesValidSpec : ChangeSpec := { name := "fnHousesValid", fn := fun _ => fun
  | [d] => { results := [.lit (.bool true)], args := [d] }
  | _ => none }
def fnHousesValidRow : OpenClaim := { program := "ytifnengegbiijab", sum := "a22baecb8913b32aa965272e320f602c15a716097d6a9af96e8c632109ff28c9", func := "loop.example/sundials/laws.FnHousesValid", spec := "fnHousesValid", unfollowed := true, recurses := true, apart := false }
def FnHousesValidSaid : Prop := fnHousesValidRow.holds Try.pinned (OpenSpec.ofChange fnHousesValidSpec)

/-- ITS FALSE NEIGHBOUR: 'it returns false'. Refute it at one input. -/
def fnHousesValidWrong : ChangeSpec := { name := "fnHousesValid", fn := fun _ => fun
  | [d] => { results := [.lit (.bool false)], args := [d] }
  | _ => none }
def FnHousesValidWrongFalsely : Prop := fnHousesValidRow.holds Try.pinned (OpenSpec.ofChange fnHousesValidWrong)

/-- 'laws.FnHousesAt': WHATEVER THE INPUT: true; the input reads as it did. -/
def fnHousesAtSpec : ChangeSpec := { name := "fnHousesAt", fn := fun _ => fun
  | [d] => { results := [.lit (.bool true)], args := [d] }
  | _ => none }
def fnHousesAtRow : OpenClaim := { program := "ytifnengegbiijab", sum := "a22baecb8913b32aa965272e320f602c15a716097d6a9af96e8c632109ff28c9", func := "loop.example/sundials/laws.FnHousesAt", spec := "fnHousesAt", unfollowed := true, recurses := true, apart := false }
def FnHousesAtSaid : Prop := fnHousesAtRow.holds Try.pinned (OpenSpec.ofChange fnHousesAtSpec)

/-- ITS FALSE NEIGHBOUR: 'it returns false'. Refute it at one input. -/
def fnHousesAtWrong : ChangeSpec := { name := "fnHousesAt", fn := fun _ => fun
  | [d] => { results := [.lit (.bool false)], args := [d] }
  | _ => none }
def FnHousesAtWrongFalsely : Prop := fnHousesAtRow.holds Try.pinned (OpenSpec.ofChange fnHousesAtWrong)

/-- 'laws.FnOutlineValid': WHATEVER THE INPUT: true; the input reads as it did. -/
def fnOutlineValidSpec : ChangeSpec := { name := "fnOutlineValid", fn := fun _ => fun
  | [d] => { results := [.lit (.bool true)], args := [d] }
  | _ => none }
def fnOutlineValidRow : OpenClaim := { program := "ytifnengegbiijab", sum := "a22baecb8913b32aa965272e320f602c15a716097d6a9af96e8c632109ff28c9", func := "loop.example/sundials/laws.FnOutlineValid", spec := "fnOutlineValid", apart := false }
def FnOutlineValidSaid : Prop := fnOutlineValidRow.holds Try.pinned (OpenSpec.ofChange fnOutlineValidSpec)

/-- ITS FALSE NEIGHBOUR: 'it returns false'. Refute it at one input. -/
def fnOutlineValidWrong : ChangeSpec := { name := "fnOutlineValid", fn := fun _ => fun
  | [d] => { results := [.lit (.bool false)], args := [d] }
  | _ => none }
def FnOutlineValidWrongFalsely : Prop := fnOutlineValidRow.holds Try.pinned (OpenSpec.ofChange fnOutlineValidWrong)

/-- 'laws.FnOutlineOf': WHATEVER THE INPUT: true; the input reads as it did. -/
def fnOutlineOfSpec : ChangeSpec := { name := "fnOutlineOf", fn := fun _ => fun
  | [d] => { results := [.lit (.bool true)], args := [d] }
  | _ => none }
def fnOutlineOfRow : OpenClaim := { program := "ytifnengegbiijab", sum := "a22baecb8913b32aa965272e320f602c15a716097d6a9af96e8c632109ff28c9", func := "loop.example/sundials/laws.FnOutlineOf", spec := "fnOutlineOf", unfollowed := true, recurses := true, apart := false }
def FnOutlineOfSaid : Prop := fnOutlineOfRow.holds Try.pinned (OpenSpec.ofChange fnOutlineOfSpec)

/-- ITS FALSE NEIGHBOUR: 'it returns false'. Refute it at one input. -/
def fnOutlineOfWrong : ChangeSpec := { name := "fnOutlineOf", fn := fun _ => fun
  | [d] => { results := [.lit (.bool false)], args := [d] }
  | _ => none }
def FnOutlineOfWrongFalsely : Prop := fnOutlineOfRow.holds Try.pinned (OpenSpec.ofChange fnOutlineOfWrong)

/-- 'laws.FnOutlineAt': WHATEVER THE INPUT: true; the input reads as it did. -/
def fnOutlineAtSpec : ChangeSpec := { name := "fnOutlineAt", fn := fun _ => fun
  | [d] => { results := [.lit (.bool true)], args := [d] }
  | _ => none }
def fnOutlineAtRow : OpenClaim := { program := "ytifnengegbiijab", sum := "a22baecb8913b32aa965272e320f602c15a716097d6a9af96e8c632109ff28c9", func := "loop.example/sundials/laws.FnOutlineAt", spec := "fnOutlineAt", apart := false }
def FnOutlineAtSaid : Prop := fnOutlineAtRow.holds Try.pinned (OpenSpec.ofChange fnOutlineAtSpec)

/-- ITS FALSE NEIGHBOUR: 'it returns false'. Refute it at one input. -/
def fnOutlineAtWrong : ChangeSpec := { name := "fnOutlineAt", fn := fun _ => fun
  | [d] => { results := [.lit (.bool false)], args := [d] }
  | _ => none }
def FnOutlineAtWrongFalsely : Prop := fnOutlineAtRow.holds Try.pinned (OpenSpec.ofChange fnOutlineAtWrong)

/-- 'laws.FnOutlineJoin': WHATEVER THE INPUT: true; the input reads as it did. -/
def fnOutlineJoinSpec : ChangeSpec := { name := "fnOutlineJoin", fn := fun _ => fun
  | [d1, d2] => { results := [.lit (.bool true)], args := [d1, d2] }
  | _ => none }
def fnOutlineJoinRow : OpenClaim := { program := "ytifnengegbiijab", sum := "a22baecb8913b32aa965272e320f602c15a716097d6a9af96e8c632109ff28c9", func := "loop.example/sundials/laws.FnOutlineJoin", spec := "fnOutlineJoin", unfollowed := true, recurses := true, apart := false }
def FnOutlineJoinSaid : Prop := fnOutlineJoinRow.holds Try.pinned (OpenSpec.ofChange fnOutlineJoinSpec)

/-- ITS FALSE NEIGHBOUR: 'it returns false'. Refute it at one input. -/
def fnOutlineJoinWrong : ChangeSpec := { name := "fnOutlineJoin", fn := fun _ => fun
  | [d1, d2] => { results := [.lit (.bool false)], args := [d1, d2] }
  | _ => none }
def FnOutlineJoinWrongFalsely : Prop := fnOutlineJoinRow.holds Try.pinned (OpenSpec.ofChange fnOutlineJoinWrong)

/-- 'laws.FnOutlineArea': WHATEVER THE INPUT: true; the input reads as it did. -/
def fnOutlineAreaSpec : ChangeSpec := { name := "fnOutlineArea", fn := fun _ => fun
  | [d] => { results := [.lit (.bool true)], args := [d] }
  | _ => none }
def fnOutlineAreaRow : OpenClaim := { program := "ytifnengegbiijab", sum := "a22baecb8913b32aa965272e320f602c15a716097d6a9af96e8c632109ff28c9", func := "loop.example/sundials/laws.FnOutlineArea", spec := "fnOutlineArea", apart := false }
def FnOutlineAreaSaid : Prop := fnOutlineAreaRow.holds Try.pinned (OpenSpec.ofChange fnOutlineAreaSpec)

/-- ITS FALSE NEIGHBOUR: 'it returns false'. Refute it at one input. -/
def fnOutlineAreaWrong : ChangeSpec := { name := "fnOutlineArea", fn := fun _ => fun
  | [d] => { results := [.lit (.bool false)], args := [d] }
  | _ => none }
def FnOutlineAreaWrongFalsely : Prop := fnOutlineAreaRow.holds Try.pinned (OpenSpec.ofChange fnOutlineAreaWrong)

/- THE SECOND FORM. 'bulk': how many values and letters a reading holds, each counted each time it is reached (what is shared counts as often as it is met; a slice's spare places count too). A statement '..UptoSaid' is the law's where the arguments, and the package variables that the reading takes, are together of bulk at most 1048576: NARROWER than '..Said'. Prove '..Said' where nothing that the law and all that it calls make is longer than what came in: it says more and counts as full. Else prove '..UptoSaid'. A law counts once. -/
mutual
def uptoBulk {H : Type} : DataW H → Nat
  | .lit (.string bytes) => bytes.length + 1
  | .lit _ => 1
  | .nil => 1
  | .ptr d => uptoBulk d + 1
  | .slice elems spare => uptoBulkAll elems + uptoBulkAll spare + 1
  | .agg parts => uptoBulkAll parts + 1
  | .iface _ d => uptoBulk d + 1
  | .map entries => uptoBulkEntries entries + 1
  | .held _ => 1
def uptoBulkAll {H : Type} : List (DataW H) → Nat
  | [] => 0
  | d :: r => uptoBulk d + uptoBulkAll r
def uptoBulkEntries {H : Type} : List (Lit × DataW H) → Nat
  | [] => 0
  | x :: r => uptoBulkEntry x + uptoBulkEntries r
def uptoBulkEntry {H : Type} : Lit × DataW H → Nat
  | (.string bytes, d) => bytes.length + uptoBulk d + 1
  | (_, d) => uptoBulk d + 1
 end
def uptoSmall : (H : Type) → List (DataW H) → Bool := fun _ ds => decide (uptoBulkAll ds ≤ 1048576)
def OpenSpec.upto (s : _root_.Go.ChangeSpec) : _root_.Go.OpenSpec := { _root_.Go.OpenSpec.ofChange s with cond := some uptoSmall }

/-- 'laws.FnSeen', WHERE WHAT IT READS IS OF BULK AT MOST 1048576: true; the input reads as it did. -/
def fnSeenUptoRow : OpenClaim := { program := "ytifnengegbiijab", sum := "a22baecb8913b32aa965272e320f602c15a716097d6a9af96e8c632109ff28c9", func := "loop.example/sundials/laws.FnSeen", spec := "fnSeen", apart := false, narrowed := true }
def FnSeenUptoSaid : Prop := fnSeenUptoRow.holds Try.pinned (OpenSpec.upto fnSeenSpec)

/-- 'laws.FnHousesValid', WHERE WHAT IT READS IS OF BULK AT MOST 1048576: true; the input reads as it did. -/
def fnHousesValidUptoRow : OpenClaim := { program := "ytifnengegbiijab", sum := "a22baecb8913b32aa965272e320f602c15a716097d6a9af96e8c632109ff28c9", func := "loop.example/sundials/laws.FnHousesValid", spec := "fnHousesValid", unfollowed := true, recurses := true, apart := false, narrowed := true }
def FnHousesValidUptoSaid : Prop := fnHousesValidUptoRow.holds Try.pinned (OpenSpec.upto fnHousesValidSpec)

/-- 'laws.FnHousesAt', WHERE WHAT IT READS IS OF BULK AT MOST 1048576: true; the input reads as it did. -/
def fnHousesAtUptoRow : OpenClaim := { program := "ytifnengegbiijab", sum := "a22baecb8913b32aa965272e320f602c15a716097d6a9af96e8c632109ff28c9", func := "loop.example/sundials/laws.FnHousesAt", spec := "fnHousesAt", unfollowed := true, recurses := true, apart := false, narrowed := true }
def FnHousesAtUptoSaid : Prop := fnHousesAtUptoRow.holds Try.pinned (OpenSpec.upto fnHousesAtSpec)

/-- 'laws.FnOutlineValid', WHERE WHAT IT READS IS OF BULK AT MOST 1048576: true; the input reads as it did. -/
def fnOutlineValidUptoRow : OpenClaim := { program := "ytifnengegbiijab", sum := "a22baecb8913b32aa965272e320f602c15a716097d6a9af96e8c632109ff28c9", func := "loop.example/sundials/laws.FnOutlineValid", spec := "fnOutlineValid", apart := false, narrowed := true }
def FnOutlineValidUptoSaid : Prop := fnOutlineValidUptoRow.holds Try.pinned (OpenSpec.upto fnOutlineValidSpec)

/-- 'laws.FnOutlineOf', WHERE WHAT IT READS IS OF BULK AT MOST 1048576: true; the input reads as it did. -/
def fnOutlineOfUptoRow : OpenClaim := { program := "ytifnengegbiijab", sum := "a22baecb8913b32aa965272e320f602c15a716097d6a9af96e8c632109ff28c9", func := "loop.example/sundials/laws.FnOutlineOf", spec := "fnOutlineOf", unfollowed := true, recurses := true, apart := false, narrowed := true }
def FnOutlineOfUptoSaid : Prop := fnOutlineOfUptoRow.holds Try.pinned (OpenSpec.upto fnOutlineOfSpec)

/-- 'laws.FnOutlineAt', WHERE WHAT IT READS IS OF BULK AT MOST 1048576: true; the input reads as it did. -/
def fnOutlineAtUptoRow : OpenClaim := { program := "ytifnengegbiijab", sum := "a22baecb8913b32aa965272e320f602c15a716097d6a9af96e8c632109ff28c9", func := "loop.example/sundials/laws.FnOutlineAt", spec := "fnOutlineAt", apart := false, narrowed := true }
def FnOutlineAtUptoSaid : Prop := fnOutlineAtUptoRow.holds Try.pinned (OpenSpec.upto fnOutlineAtSpec)

/-- 'laws.FnOutlineJoin', WHERE WHAT IT READS IS OF BULK AT MOST 1048576: true; the input reads as it did. -/
def fnOutlineJoinUptoRow : OpenClaim := { program := "ytifnengegbiijab", sum := "a22baecb8913b32aa965272e320f602c15a716097d6a9af96e8c632109ff28c9", func := "loop.example/sundials/laws.FnOutlineJoin", spec := "fnOutlineJoin", unfollowed := true, recurses := true, apart := false, narrowed := true }
def FnOutlineJoinUptoSaid : Prop := fnOutlineJoinUptoRow.holds Try.pinned (OpenSpec.upto fnOutlineJoinSpec)

/-- 'laws.FnOutlineArea', WHERE WHAT IT READS IS OF BULK AT MOST 1048576: true; the input reads as it did. -/
def fnOutlineAreaUptoRow : OpenClaim := { program := "ytifnengegbiijab", sum := "a22baecb8913b32aa965272e320f602c15a716097d6a9af96e8c632109ff28c9", func := "loop.example/sundials/laws.FnOutlineArea", spec := "fnOutlineArea", apart := false, narrowed := true }
def FnOutlineAreaUptoSaid : Prop := fnOutlineAreaUptoRow.holds Try.pinned (OpenSpec.upto fnOutlineAreaSpec)

end Rows
end Go.Proofs.Ytifnengegbiijab
