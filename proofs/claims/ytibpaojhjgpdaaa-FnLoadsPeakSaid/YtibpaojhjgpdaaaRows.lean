/-
  No cell of these rows narrows 'for every input' (looked for: loops, veiled, ifaces, maps, wideKeys, modest, calm, conditions, laid).
  DERIVED. THE GIVEN ROWS OF THIS SEAT. 7 by the template 'for every input the law returns true; each argument reads behind the call as it read before'; 0 by the template 'total and deterministic' (their statements: YtibpaojhjgpdaaaTotals.lean).
  GIVEN WITH THE SEED: the statements are not yours to turn. If you find one false, say at which input.
  Laid BY PROGRAM, IN A SANDBOX (cutbox-rows.mjs): the forced cells as the released guide's own fill.sh prints them over the translation 7e4abd61bd54d616… (all of the seat's roots in one cut). By AI agents, Wed Nov 11 2026. No macro, syntax, notation, axiom, sorry.
-/
import Derived.Test.YtibpaojhjgpdaaaChecked
import GoSem.Claim
import GoSem.ClaimJoined
import GoSem.ClaimMapViews
import Derived.JoinedTies
import Derived.KernelRfl
namespace Go.Proofs.Ytibpaojhjgpdaaa
/- THE CELL 'sum', in the pinned program and in every row, IS THE sha256 OF THE DUMP (.gsa) THAT YtibpaojhjgpdaaaProg.lean LOADS. Nothing in Lean hashes anything: it is a label: what it is worth is what the hold of that sum in a sandbox is worth. -/
noncomputable def Try.pinned : Pinned := { name := "ytibpaojhjgpdaaa", sum := "7e4abd61bd54d616a05a99ccfc5459e6522e447ebbf7f24336be8a73b1c18357", checked := Try.checked }
namespace Rows
def none {H : Type} : Left H := { results := [], args := [] }

/-- 'laws.FnRoundOrder': WHATEVER THE INPUT: true; the input reads as it did. -/
def fnRoundOrderSpec : ChangeSpec := { name := "fnRoundOrder", fn := fun _ => fun
  | [d] => { results := [.lit (.bool true)], args := [d] }
  | _ => none }
def fnRoundOrderRow : OpenClaim := { program := "ytibpaojhjgpdaaa", sum := "7e4abd61bd54d616a05a99ccfc5459e6522e447ebbf7f24336be8a73b1c18357", func := "loop.example/sundials/laws.FnRoundOrder", spec := "fnRoundOrder", unfollowed := true, recurses := true, apart := false }
def FnRoundOrderSaid : Prop := fnRoundOrderRow.holds Try.pinned (OpenSpec.ofChange fnRoundOrderSpec)

/-- ITS FALSE NEIGHBOUR: 'it returns false'. Refute it at one input. -/
def fnRoundOrderWrong : ChangeSpec := { name := "fnRoundOrder", fn := fun _ => fun
  | [d] => { results := [.lit (.bool false)], args := [d] }
  | _ => none }
def FnRoundOrderWrongFalsely : Prop := fnRoundOrderRow.holds Try.pinned (OpenSpec.ofChange fnRoundOrderWrong)

/-- 'laws.FnExactRoundOrder': WHATEVER THE INPUT: true; the input reads as it did. -/
def fnExactRoundOrderSpec : ChangeSpec := { name := "fnExactRoundOrder", fn := fun _ => fun
  | [d] => { results := [.lit (.bool true)], args := [d] }
  | _ => none }
def fnExactRoundOrderRow : OpenClaim := { program := "ytibpaojhjgpdaaa", sum := "7e4abd61bd54d616a05a99ccfc5459e6522e447ebbf7f24336be8a73b1c18357", func := "loop.example/sundials/laws.FnExactRoundOrder", spec := "fnExactRoundOrder", unfollowed := true, recurses := true, apart := false }
def FnExactRoundOrderSaid : Prop := fnExactRoundOrderRow.holds Try.pinned (OpenSpec.ofChange fnExactRoundOrderSpec)

/-- ITS FALSE NEIGHBOUR: 'it returns false'. Refute it at one input. -/
def fnExactRoundOrderWrong : ChangeSpec := { name := "fnExactRoundOrder", fn := fun _ => fun
  | [d] => { results := [.lit (.bool false)], args := [d] }
  | _ => none }
def FnExactRoundOrderWrongFalsely : Prop := fnExactRoundOrderRow.holds Try.pinned (OpenSpec.ofChange fnExactRoundOrderWrong)

/-- 'laws.FnExactLoadsWith': WHATEVER THE INPUT: true; the input reads as it did. -/
def fnExactLoadsWithSpec : ChangeSpec := { name := "fnExactLoadsWith", fn := fun _ => fun
  | [d1, d2] => { results := [.lit (.bool true)], args := [d1, d2] }
  | _ => none }
def fnExactLoadsWithRow : OpenClaim := { program := "ytibpaojhjgpdaaa", sum := "7e4abd61bd54d616a05a99ccfc5459e6522e447ebbf7f24336be8a73b1c18357", func := "loop.example/sundials/laws.FnExactLoadsWith", spec := "fnExactLoadsWith", unfollowed := true, recurses := true, apart := false }
def FnExactLoadsWithSaid : Prop := fnExactLoadsWithRow.holds Try.pinned (OpenSpec.ofChange fnExactLoadsWithSpec)

/-- ITS FALSE NEIGHBOUR: 'it returns false'. Refute it at one input. -/
def fnExactLoadsWithWrong : ChangeSpec := { name := "fnExactLoadsWith", fn := fun _ => fun
  | [d1, d2] => { results := [.lit (.bool false)], args := [d1, d2] }
  | _ => none }
def FnExactLoadsWithWrongFalsely : Prop := fnExactLoadsWithRow.holds Try.pinned (OpenSpec.ofChange fnExactLoadsWithWrong)

/-- 'laws.FnExactLoadsLeast': WHATEVER THE INPUT: true; the input reads as it did. -/
def fnExactLoadsLeastSpec : ChangeSpec := { name := "fnExactLoadsLeast", fn := fun _ => fun
  | [d] => { results := [.lit (.bool true)], args := [d] }
  | _ => none }
def fnExactLoadsLeastRow : OpenClaim := { program := "ytibpaojhjgpdaaa", sum := "7e4abd61bd54d616a05a99ccfc5459e6522e447ebbf7f24336be8a73b1c18357", func := "loop.example/sundials/laws.FnExactLoadsLeast", spec := "fnExactLoadsLeast", unfollowed := true, recurses := true, apart := false }
def FnExactLoadsLeastSaid : Prop := fnExactLoadsLeastRow.holds Try.pinned (OpenSpec.ofChange fnExactLoadsLeastSpec)

/-- ITS FALSE NEIGHBOUR: 'it returns false'. Refute it at one input. -/
def fnExactLoadsLeastWrong : ChangeSpec := { name := "fnExactLoadsLeast", fn := fun _ => fun
  | [d] => { results := [.lit (.bool false)], args := [d] }
  | _ => none }
def FnExactLoadsLeastWrongFalsely : Prop := fnExactLoadsLeastRow.holds Try.pinned (OpenSpec.ofChange fnExactLoadsLeastWrong)

/-- 'laws.FnLoadsPeak': WHATEVER THE INPUT: true; the input reads as it did. -/
def fnLoadsPeakSpec : ChangeSpec := { name := "fnLoadsPeak", fn := fun _ => fun
  | [d] => { results := [.lit (.bool true)], args := [d] }
  | _ => none }
def fnLoadsPeakRow : OpenClaim := { program := "ytibpaojhjgpdaaa", sum := "7e4abd61bd54d616a05a99ccfc5459e6522e447ebbf7f24336be8a73b1c18357", func := "loop.example/sundials/laws.FnLoadsPeak", spec := "fnLoadsPeak", unfollowed := true, recurses := true, apart := false }
def FnLoadsPeakSaid : Prop := fnLoadsPeakRow.holds Try.pinned (OpenSpec.ofChange fnLoadsPeakSpec)

/-- ITS FALSE NEIGHBOUR: 'it returns false'. Refute it at one input. -/
def fnLoadsPeakWrong : ChangeSpec := { name := "fnLoadsPeak", fn := fun _ => fun
  | [d] => { results := [.lit (.bool false)], args := [d] }
  | _ => none }
def FnLoadsPeakWrongFalsely : Prop := fnLoadsPeakRow.holds Try.pinned (OpenSpec.ofChange fnLoadsPeakWrong)

/-- 'laws.FnLoadsWith': WHATEVER THE INPUT: true; the input reads as it did. -/
def fnLoadsWithSpec : ChangeSpec := { name := "fnLoadsWith", fn := fun _ => fun
  | [d] => { results := [.lit (.bool true)], args := [d] }
  | _ => none }
def fnLoadsWithRow : OpenClaim := { program := "ytibpaojhjgpdaaa", sum := "7e4abd61bd54d616a05a99ccfc5459e6522e447ebbf7f24336be8a73b1c18357", func := "loop.example/sundials/laws.FnLoadsWith", spec := "fnLoadsWith", unfollowed := true, recurses := true, apart := false }
def FnLoadsWithSaid : Prop := fnLoadsWithRow.holds Try.pinned (OpenSpec.ofChange fnLoadsWithSpec)

/-- ITS FALSE NEIGHBOUR: 'it returns false'. Refute it at one input. -/
def fnLoadsWithWrong : ChangeSpec := { name := "fnLoadsWith", fn := fun _ => fun
  | [d] => { results := [.lit (.bool false)], args := [d] }
  | _ => none }
def FnLoadsWithWrongFalsely : Prop := fnLoadsWithRow.holds Try.pinned (OpenSpec.ofChange fnLoadsWithWrong)

/-- 'laws.FnLoadsLeast': WHATEVER THE INPUT: true; the input reads as it did. -/
def fnLoadsLeastSpec : ChangeSpec := { name := "fnLoadsLeast", fn := fun _ => fun
  | [d] => { results := [.lit (.bool true)], args := [d] }
  | _ => none }
def fnLoadsLeastRow : OpenClaim := { program := "ytibpaojhjgpdaaa", sum := "7e4abd61bd54d616a05a99ccfc5459e6522e447ebbf7f24336be8a73b1c18357", func := "loop.example/sundials/laws.FnLoadsLeast", spec := "fnLoadsLeast", unfollowed := true, recurses := true, apart := false }
def FnLoadsLeastSaid : Prop := fnLoadsLeastRow.holds Try.pinned (OpenSpec.ofChange fnLoadsLeastSpec)

/-- ITS FALSE NEIGHBOUR: 'it returns false'. Refute it at one input. -/
def fnLoadsLeastWrong : ChangeSpec := { name := "fnLoadsLeast", fn := fun _ => fun
  | [d] => { results := [.lit (.bool false)], args := [d] }
  | _ => none }
def FnLoadsLeastWrongFalsely : Prop := fnLoadsLeastRow.holds Try.pinned (OpenSpec.ofChange fnLoadsLeastWrong)

/- THE SECOND FORM. 'bulk': how many values and letters a reading holds, each counted each time it is reached (what is shared counts as often as it is met; a slice's spare places count too). A statement '..UptoSaid' is the law's where the arguments, and the package variables that the reading takes, are together of bulk at most 1048576: NARROWER than '..Said'. Prove '..Said' where nothing that the law and all that it calls make is longer than what came in: it says more and counts as full. Else prove '..UptoSaid'. A law counts once. -/
mutual
def uptoBulk {H : Type} : DataW H → Nat
  | .lit (.string bytes) => bytes.length + 1
  | .lit _ => 1
  | .nil => 1
  | .ptr d => uptoBulk d + 1
  | .slice elems spare => uptoBulkAll elems + uptoBulkAll spare + 1
  | .agg parts => uptoBulkAll parts + 1
  | .iface _ d => uptoBulk d + 1
  | .map entries => uptoBulkEntries entries + 1
  | .held _ => 1
def uptoBulkAll {H : Type} : List (DataW H) → Nat
  | [] => 0
  | d :: r => uptoBulk d + uptoBulkAll r
def uptoBulkEntries {H : Type} : List (Lit × DataW H) → Nat
  | [] => 0
  | x :: r => uptoBulkEntry x + uptoBulkEntries r
def uptoBulkEntry {H : Type} : Lit × DataW H → Nat
  | (.string bytes, d) => bytes.length + uptoBulk d + 1
  | (_, d) => uptoBulk d + 1
 end
def uptoSmall : (H : Type) → List (DataW H) → Bool := fun _ ds => decide (uptoBulkAll ds ≤ 1048576)
def OpenSpec.upto (s : _root_.Go.ChangeSpec) : _root_.Go.OpenSpec := { _root_.Go.OpenSpec.ofChange s with cond := some uptoSmall }

/-- 'laws.FnRoundOrder', WHERE WHAT IT READS IS OF BULK AT MOST 1048576: true; the input reads as it did. -/
def fnRoundOrderUptoRow : OpenClaim := { program := "ytibpaojhjgpdaaa", sum := "7e4abd61bd54d616a05a99ccfc5459e6522e447ebbf7f24336be8a73b1c18357", func := "loop.example/sundials/laws.FnRoundOrder", spec := "fnRoundOrder", unfollowed := true, recurses := true, apart := false, narrowed := true }
def FnRoundOrderUptoSaid : Prop := fnRoundOrderUptoRow.holds Try.pinned (OpenSpec.upto fnRoundOrderSpec)

/-- 'laws.FnExactRoundOrder', WHERE WHAT IT READS IS OF BULK AT MOST 1048576: true; the input reads as it did. -/
def fnExactRoundOrderUptoRow : OpenClaim := { program := "ytibpaojhjgpdaaa", sum := "7e4abd61bd54d616a05a99ccfc5459e6522e447ebbf7f24336be8a73b1c18357", func := "loop.example/sundials/laws.FnExactRoundOrder", spec := "fnExactRoundOrder", unfollowed := true, recurses := true, apart := false, narrowed := true }
def FnExactRoundOrderUptoSaid : Prop := fnExactRoundOrderUptoRow.holds Try.pinned (OpenSpec.upto fnExactRoundOrderSpec)

/-- 'laws.FnExactLoadsWith', WHERE WHAT IT READS IS OF BULK AT MOST 1048576: true; the input reads as it did. -/
def fnExactLoadsWithUptoRow : OpenClaim := { program := "ytibpaojhjgpdaaa", sum := "7e4abd61bd54d616a05a99ccfc5459e6522e447ebbf7f24336be8a73b1c18357", func := "loop.example/sundials/laws.FnExactLoadsWith", spec := "fnExactLoadsWith", unfollowed := true, recurses := true, apart := false, narrowed := true }
def FnExactLoadsWithUptoSaid : Prop := fnExactLoadsWithUptoRow.holds Try.pinned (OpenSpec.upto fnExactLoadsWithSpec)

/-- 'laws.FnExactLoadsLeast', WHERE WHAT IT READS IS OF BULK AT MOST 1048576: true; the input reads as it did. -/
def fnExactLoadsLeastUptoRow : OpenClaim := { program := "ytibpaojhjgpdaaa", sum := "7e4abd61bd54d616a05a99ccfc5459e6522e447ebbf7f24336be8a73b1c18357", func := "loop.example/sundials/laws.FnExactLoadsLeast", spec := "fnExactLoadsLeast", unfollowed := true, recurses := true, apart := false, narrowed := true }
def FnExactLoadsLeastUptoSaid : Prop := fnExactLoadsLeastUptoRow.holds Try.pinned (OpenSpec.upto fnExactLoadsLeastSpec)

/-- 'laws.FnLoadsPeak', WHERE WHAT IT READS IS OF BULK AT MOST 1048576: true; the input reads as it did. -/
def fnLoadsPeakUptoRow : OpenClaim := { program := "ytibpaojhjgpdaaa", sum := "7e4abd61bd54d616a05a99ccfc5459e6522e447ebbf7f24336be8a73b1c18357", func := "loop.example/sundials/laws.FnLoadsPeak", spec := "fnLoadsPeak", unfollowed := true, recurses := true, apart := false, narrowed := true }
def FnLoadsPeakUptoSaid : Prop := fnLoadsPeakUptoRow.holds Try.pinned (OpenSpec.upto fnLoadsPeakSpec)

/-- 'laws.FnLoadsWith', WHERE WHAT IT READS IS OF BULK AT MOST 1048576: true; the input reads as it did. -/
def fnLoadsWithUptoRow : OpenClaim := { program := "ytibpaojhjgpdaaa", sum := "7e4abd61bd54d616a05a99ccfc5459e6522e447ebbf7f24336be8a73b1c18357", func := "loop.example/sundials/laws.FnLoadsWith", spec := "fnLoadsWith", unfollowed := true, recurses := true, apart := false, narrowed := true }
def FnLoadsWithUptoSaid : Prop := fnLoadsWithUptoRow.holds Try.pinned (OpenSpec.upto fnLoadsWithSpec)

/-- 'laws.FnLoadsLeast', WHERE WHAT IT READS IS OF BULK AT MOST 1048576: true; the input reads as it did. -/
def fnLoadsLeastUptoRow : OpenClaim := { program := "ytibpaojhjgpdaaa", sum := "7e4abd61bd54d616a05a99ccfc5459e6522e447ebbf7f24336be8a73b1c18357", func := "loop.example/sundials/laws.FnLoadsLeast", spec := "fnLoadsLeast", unfollowed := true, recurses := true, apart := false, narrowed := true }
def FnLoadsLeastUptoSaid : Prop := fnLoadsLeastUptoRow.holds Try.pinned (OpenSpec.upto fnLoadsLeastSpec)

end Rows
end Go.Proofs.Ytibpaojhjgpdaaa
