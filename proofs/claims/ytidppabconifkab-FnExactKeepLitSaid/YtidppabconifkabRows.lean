/-
  No cell of these rows narrows 'for every input' (looked for: loops, veiled, ifaces, maps, wideKeys, modest, calm, conditions, laid).
  DERIVED. THE GIVEN ROWS OF THIS SEAT. 5 by the template 'for every input the law returns true; each argument reads behind the call as it read before'; 0 by the template 'total and deterministic' (their statements: YtidppabconifkabTotals.lean).
  GIVEN WITH THE SEED: the statements are not yours to turn. If you find one false, say at which input.
  Laid BY PROGRAM, IN A SANDBOX (cutbox-rows.mjs): the forced cells as the released guide's own fill.sh prints them over the translation e67a5c6f98c076b2… (all of the seat's roots in one cut). By AI agents, Wed Nov 11 2026. No macro, syntax, notation, axiom, sorry.
-/
import Derived.Test.YtidppabconifkabChecked
import GoSem.Claim
import GoSem.ClaimJoined
import GoSem.ClaimMapViews
import Derived.JoinedTies
import Derived.KernelRfl
namespace Go.Proofs.Ytidppabconifkab
/- THE CELL 'sum', in the pinned program and in every row, IS THE sha256 OF THE DUMP (.gsa) THAT YtidppabconifkabProg.lean LOADS. Nothing in Lean hashes anything: it is a label: what it is worth is what the hold of that sum in a sandbox is worth. -/
noncomputable def Try.pinned : Pinned := { name := "ytidppabconifkab", sum := "e67a5c6f98c076b22d38fd49b62c10d6250399449676569993c8bbf0431f89e6", checked := Try.checked }
namespace Rows
def none {H : Type} : Left H := { results := [], args := [] }

/-- 'laws.FnRowOk': WHATEVER THE INPUT: true; the input reads as it did. -/
def fnRowOkSpec : ChangeSpec := { name := "fnRowOk", fn := fun _ => fun
  | [d] => { results := [.lit (.bool true)], args := [d] }
  | _ => none }
def fnRowOkRow : OpenClaim := { program := "ytidppabconifkab", sum := "e67a5c6f98c076b22d38fd49b62c10d6250399449676569993c8bbf0431f89e6", func := "loop.example/sundials/laws.FnRowOk", spec := "fnRowOk", unfollowed := true, recurses := true, apart := false }
def FnRowOkSaid : Prop := fnRowOkRow.holds Try.pinned (OpenSpec.ofChange fnRowOkSpec)

/-- ITS FALSE NEIGHBOUR: 'it returns false'. Refute it at one input. -/
def fnRowOkWrong : ChangeSpec := { name := "fnRowOk", fn := fun _ => fun
  | [d] => { results := [.lit (.bool false)], args := [d] }
  | _ => none }
def FnRowOkWrongFalsely : Prop := fnRowOkRow.holds Try.pinned (OpenSpec.ofChange fnRowOkWrong)

/-- 'laws.FnRaysLit': WHATEVER THE INPUT: true; the input reads as it did. -/
def fnRaysLitSpec : ChangeSpec := { name := "fnRaysLit", fn := fun _ => fun
  | [d] => { results := [.lit (.bool true)], args := [d] }
  | _ => none }
def fnRaysLitRow : OpenClaim := { program := "ytidppabconifkab", sum := "e67a5c6f98c076b22d38fd49b62c10d6250399449676569993c8bbf0431f89e6", func := "loop.example/sundials/laws.FnRaysLit", spec := "fnRaysLit", unfollowed := true, recurses := true, apart := false }
def FnRaysLitSaid : Prop := fnRaysLitRow.holds Try.pinned (OpenSpec.ofChange fnRaysLitSpec)

/-- ITS FALSE NEIGHBOUR: 'it returns false'. Refute it at one input. -/
def fnRaysLitWrong : ChangeSpec := { name := "fnRaysLit", fn := fun _ => fun
  | [d] => { results := [.lit (.bool false)], args := [d] }
  | _ => none }
def FnRaysLitWrongFalsely : Prop := fnRaysLitRow.holds Try.pinned (OpenSpec.ofChange fnRaysLitWrong)

/-- 'laws.FnPlatePut': WHATEVER THE INPUT: true; the input reads as it did. -/
def fnPlatePutSpec : ChangeSpec := { name := "fnPlatePut", fn := fun _ => fun
  | [d] => { results := [.lit (.bool true)], args := [d] }
  | _ => none }
def fnPlatePutRow : OpenClaim := { program := "ytidppabconifkab", sum := "e67a5c6f98c076b22d38fd49b62c10d6250399449676569993c8bbf0431f89e6", func := "loop.example/sundials/laws.FnPlatePut", spec := "fnPlatePut", inPlace := ["slices.overlaps[loop.example/sundials/impl.Mark]"], unfollowed := true, recurses := true, apart := false }
def FnPlatePutSaid : Prop := fnPlatePutRow.holds Try.pinned (OpenSpec.ofChange fnPlatePutSpec)

/-- ITS FALSE NEIGHBOUR: 'it returns false'. Refute it at one input. -/
def fnPlatePutWrong : ChangeSpec := { name := "fnPlatePut", fn := fun _ => fun
  | [d] => { results := [.lit (.bool false)], args := [d] }
  | _ => none }
def FnPlatePutWrongFalsely : Prop := fnPlatePutRow.holds Try.pinned (OpenSpec.ofChange fnPlatePutWrong)

/-- 'laws.FnPlateDrop': WHATEVER THE INPUT: true; the input reads as it did. -/
def fnPlateDropSpec : ChangeSpec := { name := "fnPlateDrop", fn := fun _ => fun
  | [d] => { results := [.lit (.bool true)], args := [d] }
  | _ => none }
def fnPlateDropRow : OpenClaim := { program := "ytidppabconifkab", sum := "e67a5c6f98c076b22d38fd49b62c10d6250399449676569993c8bbf0431f89e6", func := "loop.example/sundials/laws.FnPlateDrop", spec := "fnPlateDrop", inPlace := ["slices.overlaps[loop.example/sundials/impl.Mark]"], unfollowed := true, recurses := true, apart := false }
def FnPlateDropSaid : Prop := fnPlateDropRow.holds Try.pinned (OpenSpec.ofChange fnPlateDropSpec)

/-- ITS FALSE NEIGHBOUR: 'it returns false'. Refute it at one input. -/
def fnPlateDropWrong : ChangeSpec := { name := "fnPlateDrop", fn := fun _ => fun
  | [d] => { results := [.lit (.bool false)], args := [d] }
  | _ => none }
def FnPlateDropWrongFalsely : Prop := fnPlateDropRow.holds Try.pinned (OpenSpec.ofChange fnPlateDropWrong)

/-- 'laws.FnExactKeepLit': WHATEVER THE INPUT: true; the input reads as it did. -/
def fnExactKeepLitSpec : ChangeSpec := { name := "fnExactKeepLit", fn := fun _ => fun
  | [d1, d2, d3, d4] => { results := [.lit (.bool true)], args := [d1, d2, d3, d4] }
  | _ => none }
def fnExactKeepLitRow : OpenClaim := { program := "ytidppabconifkab", sum := "e67a5c6f98c076b22d38fd49b62c10d6250399449676569993c8bbf0431f89e6", func := "loop.example/sundials/laws.FnExactKeepLit", spec := "fnExactKeepLit", unfollowed := true, recurses := true, apart := false }
def FnExactKeepLitSaid : Prop := fnExactKeepLitRow.holds Try.pinned (OpenSpec.ofChange fnExactKeepLitSpec)

/-- ITS FALSE NEIGHBOUR: 'it returns false'. Refute it at one input. -/
def fnExactKeepLitWrong : ChangeSpec := { name := "fnExactKeepLit", fn := fun _ => fun
  | [d1, d2, d3, d4] => { results := [.lit (.bool false)], args := [d1, d2, d3, d4] }
  | _ => none }
def FnExactKeepLitWrongFalsely : Prop := fnExactKeepLitRow.holds Try.pinned (OpenSpec.ofChange fnExactKeepLitWrong)

/- THE SECOND FORM. 'bulk': how many values and letters a reading holds, each counted each time it is reached (what is shared counts as often as it is met; a slice's spare places count too). A statement '..UptoSaid' is the law's where the arguments, and the package variables that the reading takes, are together of bulk at most 1048576: NARROWER than '..Said'. Prove '..Said' where nothing that the law and all that it calls make is longer than what came in: it says more and counts as full. Else prove '..UptoSaid'. A law counts once. -/
mutual
def uptoBulk {H : Type} : DataW H → Nat
  | .lit (.string bytes) => bytes.length + 1
  | .lit _ => 1
  | .nil => 1
  | .ptr d => uptoBulk d + 1
  | .slice elems spare => uptoBulkAll elems + uptoBulkAll spare + 1
  | .agg parts => uptoBulkAll parts + 1
  | .iface _ d => uptoBulk d + 1
  | .map entries => uptoBulkEntries entries + 1
  | .held _ => 1
def uptoBulkAll {H : Type} : List (DataW H) → Nat
  | [] => 0
  | d :: r => uptoBulk d + uptoBulkAll r
def uptoBulkEntries {H : Type} : List (Lit × DataW H) → Nat
  | [] => 0
  | x :: r => uptoBulkEntry x + uptoBulkEntries r
def uptoBulkEntry {H : Type} : Lit × DataW H → Nat
  | (.string bytes, d) => bytes.length + uptoBulk d + 1
  | (_, d) => uptoBulk d + 1
 end
def uptoSmall : (H : Type) → List (DataW H) → Bool := fun _ ds => decide (uptoBulkAll ds ≤ 1048576)
def OpenSpec.upto (s : _root_.Go.ChangeSpec) : _root_.Go.OpenSpec := { _root_.Go.OpenSpec.ofChange s with cond := some uptoSmall }

/-- 'laws.FnRowOk', WHERE WHAT IT READS IS OF BULK AT MOST 1048576: true; the input reads as it did. -/
def fnRowOkUptoRow : OpenClaim := { program := "ytidppabconifkab", sum := "e67a5c6f98c076b22d38fd49b62c10d6250399449676569993c8bbf0431f89e6", func := "loop.example/sundials/laws.FnRowOk", spec := "fnRowOk", unfollowed := true, recurses := true, apart := false, narrowed := true }
def FnRowOkUptoSaid : Prop := fnRowOkUptoRow.holds Try.pinned (OpenSpec.upto fnRowOkSpec)

/-- 'laws.FnRaysLit', WHERE WHAT IT READS IS OF BULK AT MOST 1048576: true; the input reads as it did. -/
def fnRaysLitUptoRow : OpenClaim := { program := "ytidppabconifkab", sum := "e67a5c6f98c076b22d38fd49b62c10d6250399449676569993c8bbf0431f89e6", func := "loop.example/sundials/laws.FnRaysLit", spec := "fnRaysLit", unfollowed := true, recurses := true, apart := false, narrowed := true }
def FnRaysLitUptoSaid : Prop := fnRaysLitUptoRow.holds Try.pinned (OpenSpec.upto fnRaysLitSpec)

/-- 'laws.FnPlatePut', WHERE WHAT IT READS IS OF BULK AT MOST 1048576: true; the input reads as it did. -/
def fnPlatePutUptoRow : OpenClaim := { program := "ytidppabconifkab", sum := "e67a5c6f98c076b22d38fd49b62c10d6250399449676569993c8bbf0431f89e6", func := "loop.example/sundials/laws.FnPlatePut", spec := "fnPlatePut", inPlace := ["slices.overlaps[loop.example/sundials/impl.Mark]"], unfollowed := true, recurses := true, apart := false, narrowed := true }
def FnPlatePutUptoSaid : Prop := fnPlatePutUptoRow.holds Try.pinned (OpenSpec.upto fnPlatePutSpec)

/-- 'laws.FnPlateDrop', WHERE WHAT IT READS IS OF BULK AT MOST 1048576: true; the input reads as it did. -/
def fnPlateDropUptoRow : OpenClaim := { program := "ytidppabconifkab", sum := "e67a5c6f98c076b22d38fd49b62c10d6250399449676569993c8bbf0431f89e6", func := "loop.example/sundials/laws.FnPlateDrop", spec := "fnPlateDrop", inPlace := ["slices.overlaps[loop.example/sundials/impl.Mark]"], unfollowed := true, recurses := true, apart := false, narrowed := true }
def FnPlateDropUptoSaid : Prop := fnPlateDropUptoRow.holds Try.pinned (OpenSpec.upto fnPlateDropSpec)

/-- 'laws.FnExactKeepLit', WHERE WHAT IT READS IS OF BULK AT MOST 1048576: true; the input reads as it did. -/
def fnExactKeepLitUptoRow : OpenClaim := { program := "ytidppabconifkab", sum := "e67a5c6f98c076b22d38fd49b62c10d6250399449676569993c8bbf0431f89e6", func := "loop.example/sundials/laws.FnExactKeepLit", spec := "fnExactKeepLit", unfollowed := true, recurses := true, apart := false, narrowed := true }
def FnExactKeepLitUptoSaid : Prop := fnExactKeepLitUptoRow.holds Try.pinned (OpenSpec.upto fnExactKeepLitSpec)

end Rows
end Go.Proofs.Ytidppabconifkab
