/-
  No cell of these rows narrows 'for every input' (looked for: loops, veiled, ifaces, maps, wideKeys, modest, calm, conditions, laid).
  DERIVED. THE GIVEN ROWS OF THIS SEAT. 3 by the template 'for every input the law returns true; each argument reads behind the call as it read before'; 0 by the template 'total and deterministic' (their statements: YtjlaefapcfppeaaTotals.lean).
  GIVEN WITH THE SEED: the statements are not yours to turn. If you find one false, say at which input.
  Laid BY PROGRAM, IN A SANDBOX (cutbox-rows.mjs): the forced cells as the released guide's own fill.sh prints them over the translation 9c76bc7588d28b58… (all of the seat's roots in one cut). By AI agents, Wed Nov 11 2026. No macro, syntax, notation, axiom, sorry.
-/
import Derived.Test.YtjlaefapcfppeaaChecked
import GoSem.Claim
import GoSem.ClaimJoined
import GoSem.ClaimMapViews
import Derived.JoinedTies
import Derived.KernelRfl
namespace Go.Proofs.Ytjlaefapcfppeaa
/- THE CELL 'sum', in the pinned program and in every row, IS THE sha256 OF THE DUMP (.gsa) THAT YtjlaefapcfppeaaProg.lean LOADS. Nothing in Lean hashes anything: it is a label: what it is worth is what the hold of that sum in a sandbox is worth. -/
noncomputable def Try.pinned : Pinned := { name := "ytjlaefapcfppeaa", sum := "9c76bc7588d28b583a72308b720eb0c131ec2948c792a3c5e68b960c3754b644", checked := Try.checked }
namespace Rows
def none {H : Type} : Left H := { results := [], args := [] }

/-- 'laws.FnExactPlatePut': WHATEVER THE INPUT: true; the input reads as it did. -/
def fnExactPlatePutSpec : ChangeSpec := { name := "fnExactPlatePut", fn := fun _ => fun
  | [d1, d2] => { results := [.lit (.bool true)], args := [d1, d2] }
  | _ => none }
def fnExactPlatePutRow : OpenClaim := { program := "ytjlaefapcfppeaa", sum := "9c76bc7588d28b583a72308b720eb0c131ec2948c792a3c5e68b960c3754b644", func := "loop.example/sundials/laws.FnExactPlatePut", spec := "fnExactPlatePut", inPlace := ["slices.overlaps[loop.example/sundials/impl.Mark]"], apart := false }
def FnExactPlatePutSaid : Prop := fnExactPlatePutRow.holds Try.pinned (OpenSpec.ofChange fnExactPlatePutSpec)

/-- ITS FALSE NEIGHBOUR: 'it returns false'. Refute it at one input. -/
def fnExactPlatePutWrong : ChangeSpec := { name := "fnExactPlatePut", fn := fun _ => fun
  | [d1, d2] => { results := [.lit (.bool false)], args := [d1, d2] }
  | _ => none }
def FnExactPlatePutWrongFalsely : Prop := fnExactPlatePutRow.holds Try.pinned (OpenSpec.ofChange fnExactPlatePutWrong)

/-- 'laws.FnPlatePut': WHATEVER THE INPUT: true; the input reads as it did. -/
def fnPlatePutSpec : ChangeSpec := { name := "fnPlatePut", fn := fun _ => fun
  | [d] => { results := [.lit (.bool true)], args := [d] }
  | _ => none }
def fnPlatePutRow : OpenClaim := { program := "ytjlaefapcfppeaa", sum := "9c76bc7588d28b583a72308b720eb0c131ec2948c792a3c5e68b960c3754b644", func := "loop.example/sundials/laws.FnPlatePut", spec := "fnPlatePut", inPlace := ["slices.overlaps[loop.example/sundials/impl.Mark]"], unfollowed := true, recurses := true, apart := false }
def FnPlatePutSaid : Prop := fnPlatePutRow.holds Try.pinned (OpenSpec.ofChange fnPlatePutSpec)

/-- ITS FALSE NEIGHBOUR: 'it returns false'. Refute it at one input. -/
def fnPlatePutWrong : ChangeSpec := { name := "fnPlatePut", fn := fun _ => fun
  | [d] => { results := [.lit (.bool false)], args := [d] }
  | _ => none }
def FnPlatePutWrongFalsely : Prop := fnPlatePutRow.holds Try.pinned (OpenSpec.ofChange fnPlatePutWrong)

/-- 'laws.FnPlateDrop': WHATEVER THE INPUT: true; the input reads as it did. -/
def fnPlateDropSpec : ChangeSpec := { name := "fnPlateDrop", fn := fun _ => fun
  | [d] => { results := [.lit (.bool true)], args := [d] }
  | _ => none }
def fnPlateDropRow : OpenClaim := { program := "ytjlaefapcfppeaa", sum := "9c76bc7588d28b583a72308b720eb0c131ec2948c792a3c5e68b960c3754b644", func := "loop.example/sundials/laws.FnPlateDrop", spec := "fnPlateDrop", inPlace := ["slices.overlaps[loop.example/sundials/impl.Mark]"], unfollowed := true, recurses := true, apart := false }
def FnPlateDropSaid : Prop := fnPlateDropRow.holds Try.pinned (OpenSpec.ofChange fnPlateDropSpec)

/-- ITS FALSE NEIGHBOUR: 'it returns false'. Refute it at one input. -/
def fnPlateDropWrong : ChangeSpec := { name := "fnPlateDrop", fn := fun _ => fun
  | [d] => { results := [.lit (.bool false)], args := [d] }
  | _ => none }
def FnPlateDropWrongFalsely : Prop := fnPlateDropRow.holds Try.pinned (OpenSpec.ofChange fnPlateDropWrong)

/- THE SECOND FORM. 'bulk': how many values and letters a reading holds, each counted each time it is reached (what is shared counts as often as it is met; a slice's spare places count too). A statement '..UptoSaid' is the law's where the arguments, and the package variables that the reading takes, are together of bulk at most 1048576: NARROWER than '..Said'. Prove '..Said' where nothing that the law and all that it calls make is longer than what came in: it says more and counts as full. Else prove '..UptoSaid'. A law counts once. -/
mutual
def uptoBulk {H : Type} : DataW H → Nat
  | .lit (.string bytes) => bytes.length + 1
  | .lit _ => 1
  | .nil => 1
  | .ptr d => uptoBulk d + 1
  | .slice elems spare => uptoBulkAll elems + uptoBulkAll spare + 1
  | .agg parts => uptoBulkAll parts + 1
  | .iface _ d => uptoBulk d + 1
  | .map entries => uptoBulkEntries entries + 1
  | .held _ => 1
def uptoBulkAll {H : Type} : List (DataW H) → Nat
  | [] => 0
  | d :: r => uptoBulk d + uptoBulkAll r
def uptoBulkEntries {H : Type} : List (Lit × DataW H) → Nat
  | [] => 0
  | x :: r => uptoBulkEntry x + uptoBulkEntries r
def uptoBulkEntry {H : Type} : Lit × DataW H → Nat
  | (.string bytes, d) => bytes.length + uptoBulk d + 1
  | (_, d) => uptoBulk d + 1
 end
def uptoSmall : (H : Type) → List (DataW H) → Bool := fun _ ds => decide (uptoBulkAll ds ≤ 1048576)
def OpenSpec.upto (s : _root_.Go.ChangeSpec) : _root_.Go.OpenSpec := { _root_.Go.OpenSpec.ofChange s with cond := some uptoSmall }

/-- 'laws.FnExactPlatePut', WHERE WHAT IT READS IS OF BULK AT MOST 1048576: true; the input reads as it did. -/
def fnExactPlatePutUptoRow : OpenClaim := { program := "ytjlaefapcfppeaa", sum := "9c76bc7588d28b583a72308b720eb0c131ec2948c792a3c5e68b960c3754b644", func := "loop.example/sundials/laws.FnExactPlatePut", spec := "fnExactPlatePut", inPlace := ["slices.overlaps[loop.example/sundials/impl.Mark]"], apart := false, narrowed := true }
def FnExactPlatePutUptoSaid : Prop := fnExactPlatePutUptoRow.holds Try.pinned (OpenSpec.upto fnExactPlatePutSpec)

/-- 'laws.FnPlatePut', WHERE WHAT IT READS IS OF BULK AT MOST 1048576: true; the input reads as it did. -/
def fnPlatePutUptoRow : OpenClaim := { program := "ytjlaefapcfppeaa", sum := "9c76bc7588d28b583a72308b720eb0c131ec2948c792a3c5e68b960c3754b644", func := "loop.example/sundials/laws.FnPlatePut", spec := "fnPlatePut", inPlace := ["slices.overlaps[loop.example/sundials/impl.Mark]"], unfollowed := true, recurses := true, apart := false, narrowed := true }
def FnPlatePutUptoSaid : Prop := fnPlatePutUptoRow.holds Try.pinned (OpenSpec.upto fnPlatePutSpec)

/-- 'laws.FnPlateDrop', WHERE WHAT IT READS IS OF BULK AT MOST 1048576: true; the input reads as it did. -/
def fnPlateDropUptoRow : OpenClaim := { program := "ytjlaefapcfppeaa", sum := "9c76bc7588d28b583a72308b720eb0c131ec2948c792a3c5e68b960c3754b644", func := "loop.example/sundials/laws.FnPlateDrop", spec := "fnPlateDrop", inPlace := ["slices.overlaps[loop.example/sundials/impl.Mark]"], unfollowed := true, recurses := true, apart := false, narrowed := true }
def FnPlateDropUptoSaid : Prop := fnPlateDropUptoRow.holds Try.pinned (OpenSpec.upto fnPlateDropSpec)

end Rows
end Go.Proofs.Ytjlaefapcfppeaa
