/-
  No cell of these rows narrows 'for every input' (looked for: loops, veiled, ifaces, maps, wideKeys, modest, calm, conditions, laid).
  DERIVED. THE GIVEN ROWS OF THIS SEAT. 4 by the template 'for every input the law returns true; each argument reads behind the call as it read before'; 0 by the template 'total and deterministic' (their statements: YtjdaeijhhnaimabTotals.lean).
  GIVEN WITH THE SEED: the statements are not yours to turn. If you find one false, say at which input.
  Laid BY PROGRAM, IN A SANDBOX (cutbox-rows.mjs): the forced cells as the released guide's own fill.sh prints them over the translation cfc28b80023a8568… (all of the seat's roots in one cut). By AI agents, Wed Nov 11 2026. No macro, syntax, notation, axiom, sorry.
-/
import Derived.Test.YtjdaeijhhnaimabChecked
import GoSem.Claim
import GoSem.ClaimJoined
import GoSem.ClaimMapViews
import Derived.JoinedTies
import Derived.KernelRfl
namespace Go.Proofs.Ytjdaeijhhnaimab
/- THE CELL 'sum', in the pinned program and in every row, IS THE sha256 OF THE DUMP (.gsa) THAT YtjdaeijhhnaimabProg.lean LOADS. Nothing in Lean hashes anything: it is a label: what it is worth is what the hold of that sum in a sandbox is worth. -/
noncomputable def Try.pinned : Pinned := { name := "ytjdaeijhhnaimab", sum := "cfc28b80023a8568f54935590a6c57d8a60959ffe18484c78b18b1f8f86efa0a", checked := Try.checked }
namespace Rows
def none {H : Type} : Left H := { results := [], args := [] }

/-- 'laws.FnPlateValid': WHATEVER THE INPUT: true; the input reads as it did. -/
def fnPlateValidSpec : ChangeSpec := { name := "fnPlateValid", fn := fun _ => fun
  | [d] => { results := [.lit (.bool true)], args := [d] }
  | _ => none }
def fnPlateValidRow : OpenClaim := { program := "ytjdaeijhhnaimab", sum := "cfc28b80023a8568f54935590a6c57d8a60959ffe18484c78b18b1f8f86efa0a", func := "loop.example/sundials/laws.FnPlateValid", spec := "fnPlateValid", apart := false }
def FnPlateValidSaid : Prop := fnPlateValidRow.holds Try.pinned (OpenSpec.ofChange fnPlateValidSpec)

/-- ITS FALSE NEIGHBOUR: 'it returns false'. Refute it at one input. -/
def fnPlateValidWrong : ChangeSpec := { name := "fnPlateValid", fn := fun _ => fun
  | [d] => { results := [.lit (.bool false)], args := [d] }
  | _ => none }
def FnPlateValidWrongFalsely : Prop := fnPlateValidRow.holds Try.pinned (OpenSpec.ofChange fnPlateValidWrong)

/-- 'laws.FnPlatePut': WHATEVER THE INPUT: true; the input reads as it did. -/
def fnPlatePutSpec : ChangeSpec := { name := "fnPlatePut", fn := fun _ => fun
  | [d] => { results := [.lit (.bool true)], args := [d] }
  | _ => none }
def fnPlatePutRow : OpenClaim := { program := "ytjdaeijhhnaimab", sum := "cfc28b80023a8568f54935590a6c57d8a60959ffe18484c78b18b1f8f86efa0a", func := "loop.example/sundials/laws.FnPlatePut", spec := "fnPlatePut", inPlace := ["slices.overlaps[loop.example/sundials/impl.Mark]"], unfollowed := true, recurses := true, apart := false }
def FnPlatePutSaid : Prop := fnPlatePutRow.holds Try.pinned (OpenSpec.ofChange fnPlatePutSpec)

/-- ITS FALSE NEIGHBOUR: 'it returns false'. Refute it at one input. -/
def fnPlatePutWrong : ChangeSpec := { name := "fnPlatePut", fn := fun _ => fun
  | [d] => { results := [.lit (.bool false)], args := [d] }
  | _ => none }
def FnPlatePutWrongFalsely : Prop := fnPlatePutRow.holds Try.pinned (OpenSpec.ofChange fnPlatePutWrong)

/-- 'laws.FnPlateDrop': WHATEVER THE INPUT: true; the input reads as it did. -/
def fnPlateDropSpec : ChangeSpec := { name := "fnPlateDrop", fn := fun _ => fun
  | [d] => { results := [.lit (.bool true)], args := [d] }
  | _ => none }
def fnPlateDropRow : OpenClaim := { program := "ytjdaeijhhnaimab", sum := "cfc28b80023a8568f54935590a6c57d8a60959ffe18484c78b18b1f8f86efa0a", func := "loop.example/sundials/laws.FnPlateDrop", spec := "fnPlateDrop", inPlace := ["slices.overlaps[loop.example/sundials/impl.Mark]"], unfollowed := true, recurses := true, apart := false }
def FnPlateDropSaid : Prop := fnPlateDropRow.holds Try.pinned (OpenSpec.ofChange fnPlateDropSpec)

/-- ITS FALSE NEIGHBOUR: 'it returns false'. Refute it at one input. -/
def fnPlateDropWrong : ChangeSpec := { name := "fnPlateDrop", fn := fun _ => fun
  | [d] => { results := [.lit (.bool false)], args := [d] }
  | _ => none }
def FnPlateDropWrongFalsely : Prop := fnPlateDropRow.holds Try.pinned (OpenSpec.ofChange fnPlateDropWrong)

/-- 'laws.FnPlateRead': WHATEVER THE INPUT: true; the input reads as it did. -/
def fnPlateReadSpec : ChangeSpec := { name := "fnPlateRead", fn := fun _ => fun
  | [d] => { results := [.lit (.bool true)], args := [d] }
  | _ => none }
def fnPlateReadRow : OpenClaim := { program := "ytjdaeijhhnaimab", sum := "cfc28b80023a8568f54935590a6c57d8a60959ffe18484c78b18b1f8f86efa0a", func := "loop.example/sundials/laws.FnPlateRead", spec := "fnPlateRead", apart := false }
def FnPlateReadSaid : Prop := fnPlateReadRow.holds Try.pinned (OpenSpec.ofChange fnPlateReadSpec)

/-- ITS FALSE NEIGHBOUR: 'it returns false'. Refute it at one input. -/
def fnPlateReadWrong : ChangeSpec := { name := "fnPlateRead", fn := fun _ => fun
  | [d] => { results := [.lit (.bool false)], args := [d] }
  | _ => none }
def FnPlateReadWrongFalsely : Prop := fnPlateReadRow.holds Try.pinned (OpenSpec.ofChange fnPlateReadWrong)

/- THE SECOND FORM. 'bulk': how many values and letters a reading holds, each counted each time it is reached (what is shared counts as often as it is met; a slice's spare places count too). A statement '..UptoSaid' is the law's where the arguments, and the package variables that the reading takes, are together of bulk at most 1048576: NARROWER than '..Said'. Prove '..Said' where nothing that the law and all that it calls make is longer than what came in: it says more and counts as full. Else prove '..UptoSaid'. A law counts once. -/
mutual
def uptoBulk {H : Type} : DataW H → Nat
  | .lit (.string bytes) => bytes.length + 1
  | .lit _ => 1
  | .nil => 1
  | .ptr d => uptoBulk d + 1
  | .slice elems spare => uptoBulkAll elems + uptoBulkAll spare + 1
  | .agg parts => uptoBulkAll parts + 1
  | .iface _ d => uptoBulk d + 1
  | .map entries => uptoBulkEntries entries + 1
  | .held _ => 1
def uptoBulkAll {H : Type} : List (DataW H) → Nat
  | [] => 0
  | d :: r => uptoBulk d + uptoBulkAll r
def uptoBulkEntries {H : Type} : List (Lit × DataW H) → Nat
  | [] => 0
  | x :: r => uptoBulkEntry x + uptoBulkEntries r
def uptoBulkEntry {H : Type} : Lit × DataW H → Nat
  | (.string bytes, d) => bytes.length + uptoBulk d + 1
  | (_, d) => uptoBulk d + 1
 end
def uptoSmall : (H : Type) → List (DataW H) → Bool := fun _ ds => decide (uptoBulkAll ds ≤ 1048576)
def OpenSpec.upto (s : _root_.Go.ChangeSpec) : _root_.Go.OpenSpec := { _root_.Go.OpenSpec.ofChange s with cond := some uptoSmall }

/-- 'laws.FnPlateValid', WHERE WHAT IT READS IS OF BULK AT MOST 1048576: true; the input reads as it did. -/
def fnPlateValidUptoRow : OpenClaim := { program := "ytjdaeijhhnaimab", sum := "cfc28b80023a8568f54935590a6c57d8a60959ffe18484c78b18b1f8f86efa0a", func := "loop.example/sundials/laws.FnPlateValid", spec := "fnPlateValid", apart := false, narrowed := true }
def FnPlateValidUptoSaid : Prop := fnPlateValidUptoRow.holds Try.pinned (OpenSpec.upto fnPlateValidSpec)

/-- 'laws.FnPlatePut', WHERE WHAT IT READS IS OF BULK AT MOST 1048576: true; the input reads as it did. -/
def fnPlatePutUptoRow : OpenClaim := { program := "ytjdaeijhhnaimab", sum := "cfc28b80023a8568f54935590a6c57d8a60959ffe18484c78b18b1f8f86efa0a", func := "loop.example/sundials/laws.FnPlatePut", spec := "fnPlatePut", inPlace := ["slices.overlaps[loop.example/sundials/impl.Mark]"], unfollowed := true, recurses := true, apart := false, narrowed := true }
def FnPlatePutUptoSaid : Prop := fnPlatePutUptoRow.holds Try.pinned (OpenSpec.upto fnPlatePutSpec)

/-- 'laws.FnPlateDrop', WHERE WHAT IT READS IS OF BULK AT MOST 1048576: true; the input reads as it did. -/
def fnPlateDropUptoRow : OpenClaim := { program := "ytjdaeijhhnaimab", sum := "cfc28b80023a8568f54935590a6c57d8a60959ffe18484c78b18b1f8f86efa0a", func := "loop.example/sundials/laws.FnPlateDrop", spec := "fnPlateDrop", inPlace := ["slices.overlaps[loop.example/sundials/impl.Mark]"], unfollowed := true, recurses := true, apart := false, narrowed := true }
def FnPlateDropUptoSaid : Prop := fnPlateDropUptoRow.holds Try.pinned (OpenSpec.upto fnPlateDropSpec)

/-- 'laws.FnPlateRead', WHERE WHAT IT READS IS OF BULK AT MOST 1048576: true; the input reads as it did. -/
def fnPlateReadUptoRow : OpenClaim := { program := "ytjdaeijhhnaimab", sum := "cfc28b80023a8568f54935590a6c57d8a60959ffe18484c78b18b1f8f86efa0a", func := "loop.example/sundials/laws.FnPlateRead", spec := "fnPlateRead", apart := false, narrowed := true }
def FnPlateReadUptoSaid : Prop := fnPlateReadUptoRow.holds Try.pinned (OpenSpec.upto fnPlateReadSpec)

end Rows
end Go.Proofs.Ytjdaeijhhnaimab
