/-
  No cell of these rows narrows 'for every input' (looked for: loops, veiled, ifaces, maps, wideKeys, modest, calm, conditions, laid).
  DERIVED. THE GIVEN ROWS OF THIS SEAT. 4 by the template 'for every input the law returns true; each argument reads behind the call as it read before'; 0 by the template 'total and deterministic' (their statements: YtigndpajpofofaaTotals.lean).
  GIVEN WITH THE SEED: the statements are not yours to turn. If you find one false, say at which input.
  Laid BY PROGRAM, IN A SANDBOX (cutbox-rows.mjs): the forced cells as the released guide's own fill.sh prints them over the translation 0d2af267e1ada6cf… (all of the seat's roots in one cut). By AI agents, Wed Nov 11 2026. No macro, syntax, notation, axiom, sorry.
-/
import Derived.Test.YtigndpajpofofaaChecked
import GoSem.Claim
import GoSem.ClaimJoined
import GoSem.ClaimMapViews
import Derived.JoinedTies
import Derived.KernelRfl
namespace Go.Proofs.Ytigndpajpofofaa
/- THE CELL 'sum', in the pinned program and in every row, IS THE sha256 OF THE DUMP (.gsa) THAT YtigndpajpofofaaProg.lean LOADS. Nothing in Lean hashes anything: it is a label: what it is worth is what the hold of that sum in a sandbox is worth. -/
noncomputable def Try.pinned : Pinned := { name := "ytigndpajpofofaa", sum := "0d2af267e1ada6cf8dd9dc69cc3c27f5f73809bc57ff3fecd629e20ef8ede604", checked := Try.checked }
namespace Rows
def none {H : Type} : Left H := { results := [], args := [] }

/-- 'laws.FnExactSiteValid': WHATEVER THE INPUT: true; the input reads as it did. -/
def fnExactSiteValidSpec : ChangeSpec := { name := "fnExactSiteValid", fn := fun _ => fun
  | [d] => { results := [.lit (.bool true)], args := [d] }
  | _ => none }
def fnExactSiteValidRow : OpenClaim := { program := "ytigndpajpofofaa", sum := "0d2af267e1ada6cf8dd9dc69cc3c27f5f73809bc57ff3fecd629e20ef8ede604", func := "loop.example/sundials/laws.FnExactSiteValid", spec := "fnExactSiteValid", unfollowed := true, recurses := true, apart := false }
def FnExactSiteValidSaid : Prop := fnExactSiteValidRow.holds Try.pinned (OpenSpec.ofChange fnExactSiteValidSpec)

/-- ITS FALSE NEIGHBOUR: 'it returns false'. Refute it at one input. -/
def fnExactSiteValidWrong : ChangeSpec := { name := "fnExactSiteValid", fn := fun _ => fun
  | [d] => { results := [.lit (.bool false)], args := [d] }
  | _ => none }
def FnExactSiteValidWrongFalsely : Prop := fnExactSiteValidRow.holds Try.pinned (OpenSpec.ofChange fnExactSiteValidWrong)

/-- 'laws.FnExactSiteRay': WHATEVER THE INPUT: true; the input reads as it did. -/
def fnExactSiteRaySpec : ChangeSpec := { name := "fnExactSiteRay", fn := fun _ => fun
  | [d] => { results := [.lit (.bool true)], args := [d] }
  | _ => none }
def fnExactSiteRayRow : OpenClaim := { program := "ytigndpajpofofaa", sum := "0d2af267e1ada6cf8dd9dc69cc3c27f5f73809bc57ff3fecd629e20ef8ede604", func := "loop.example/sundials/laws.FnExactSiteRay", spec := "fnExactSiteRay", unfollowed := true, recurses := true, apart := false }
def FnExactSiteRaySaid : Prop := fnExactSiteRayRow.holds Try.pinned (OpenSpec.ofChange fnExactSiteRaySpec)

/-- ITS FALSE NEIGHBOUR: 'it returns false'. Refute it at one input. -/
def fnExactSiteRayWrong : ChangeSpec := { name := "fnExactSiteRay", fn := fun _ => fun
  | [d] => { results := [.lit (.bool false)], args := [d] }
  | _ => none }
def FnExactSiteRayWrongFalsely : Prop := fnExactSiteRayRow.holds Try.pinned (OpenSpec.ofChange fnExactSiteRayWrong)

/-- 'laws.FnExactSiteLight': WHATEVER THE INPUT: true; the input reads as it did. -/
def fnExactSiteLightSpec : ChangeSpec := { name := "fnExactSiteLight", fn := fun _ => fun
  | [d] => { results := [.lit (.bool true)], args := [d] }
  | _ => none }
def fnExactSiteLightRow : OpenClaim := { program := "ytigndpajpofofaa", sum := "0d2af267e1ada6cf8dd9dc69cc3c27f5f73809bc57ff3fecd629e20ef8ede604", func := "loop.example/sundials/laws.FnExactSiteLight", spec := "fnExactSiteLight", unfollowed := true, recurses := true, apart := false }
def FnExactSiteLightSaid : Prop := fnExactSiteLightRow.holds Try.pinned (OpenSpec.ofChange fnExactSiteLightSpec)

/-- ITS FALSE NEIGHBOUR: 'it returns false'. Refute it at one input. -/
def fnExactSiteLightWrong : ChangeSpec := { name := "fnExactSiteLight", fn := fun _ => fun
  | [d] => { results := [.lit (.bool false)], args := [d] }
  | _ => none }
def FnExactSiteLightWrongFalsely : Prop := fnExactSiteLightRow.holds Try.pinned (OpenSpec.ofChange fnExactSiteLightWrong)

/-- 'laws.FnExactSiteGain': WHATEVER THE INPUT: true; the input reads as it did. -/
def fnExactSiteGainSpec : ChangeSpec := { name := "fnExactSiteGain", fn := fun _ => fun
  | [d] => { results := [.lit (.bool true)], args := [d] }
  | _ => none }
def fnExactSiteGainRow : OpenClaim := { program := "ytigndpajpofofaa", sum := "0d2af267e1ada6cf8dd9dc69cc3c27f5f73809bc57ff3fecd629e20ef8ede604", func := "loop.example/sundials/laws.FnExactSiteGain", spec := "fnExactSiteGain", unfollowed := true, recurses := true, apart := false }
def FnExactSiteGainSaid : Prop := fnExactSiteGainRow.holds Try.pinned (OpenSpec.ofChange fnExactSiteGainSpec)

/-- ITS FALSE NEIGHBOUR: 'it returns false'. Refute it at one input. -/
def fnExactSiteGainWrong : ChangeSpec := { name := "fnExactSiteGain", fn := fun _ => fun
  | [d] => { results := [.lit (.bool false)], args := [d] }
  | _ => none }
def FnExactSiteGainWrongFalsely : Prop := fnExactSiteGainRow.holds Try.pinned (OpenSpec.ofChange fnExactSiteGainWrong)

/- THE SECOND FORM. 'bulk': how many values and letters a reading holds, each counted each time it is reached (what is shared counts as often as it is met; a slice's spare places count too). A statement '..UptoSaid' is the law's where the arguments, and the package variables that the reading takes, are together of bulk at most 1048576: NARROWER than '..Said'. Prove '..Said' where nothing that the law and all that it calls make is longer than what came in: it says more and counts as full. Else prove '..UptoSaid'. A law counts once. -/
mutual
def uptoBulk {H : Type} : DataW H → Nat
  | .lit (.string bytes) => bytes.length + 1
  | .lit _ => 1
  | .nil => 1
  | .ptr d => uptoBulk d + 1
  | .slice elems spare => uptoBulkAll elems + uptoBulkAll spare + 1
  | .agg parts => uptoBulkAll parts + 1
  | .iface _ d => uptoBulk d + 1
  | .map entries => uptoBulkEntries entries + 1
  | .held _ => 1
def uptoBulkAll {H : Type} : List (DataW H) → Nat
  | [] => 0
  | d :: r => uptoBulk d + uptoBulkAll r
def uptoBulkEntries {H : Type} : List (Lit × DataW H) → Nat
  | [] => 0
  | x :: r => uptoBulkEntry x + uptoBulkEntries r
def uptoBulkEntry {H : Type} : Lit × DataW H → Nat
  | (.string bytes, d) => bytes.length + uptoBulk d + 1
  | (_, d) => uptoBulk d + 1
 end
def uptoSmall : (H : Type) → List (DataW H) → Bool := fun _ ds => decide (uptoBulkAll ds ≤ 1048576)
def OpenSpec.upto (s : _root_.Go.ChangeSpec) : _root_.Go.OpenSpec := { _root_.Go.OpenSpec.ofChange s with cond := some uptoSmall }

/-- 'laws.FnExactSiteValid', WHERE WHAT IT READS IS OF BULK AT MOST 1048576: true; the input reads as it did. -/
def fnExactSiteValidUptoRow : OpenClaim := { program := "ytigndpajpofofaa", sum := "0d2af267e1ada6cf8dd9dc69cc3c27f5f73809bc57ff3fecd629e20ef8ede604", func := "loop.example/sundials/laws.FnExactSiteValid", spec := "fnExactSiteValid", unfollowed := true, recurses := true, apart := false, narrowed := true }
def FnExactSiteValidUptoSaid : Prop := fnExactSiteValidUptoRow.holds Try.pinned (OpenSpec.upto fnExactSiteValidSpec)

/-- 'laws.FnExactSiteRay', WHERE WHAT IT READS IS OF BULK AT MOST 1048576: true; the input reads as it did. -/
def fnExactSiteRayUptoRow : OpenClaim := { program := "ytigndpajpofofaa", sum := "0d2af267e1ada6cf8dd9dc69cc3c27f5f73809bc57ff3fecd629e20ef8ede604", func := "loop.example/sundials/laws.FnExactSiteRay", spec := "fnExactSiteRay", unfollowed := true, recurses := true, apart := false, narrowed := true }
def FnExactSiteRayUptoSaid : Prop := fnExactSiteRayUptoRow.holds Try.pinned (OpenSpec.upto fnExactSiteRaySpec)

/-- 'laws.FnExactSiteLight', WHERE WHAT IT READS IS OF BULK AT MOST 1048576: true; the input reads as it did. -/
def fnExactSiteLightUptoRow : OpenClaim := { program := "ytigndpajpofofaa", sum := "0d2af267e1ada6cf8dd9dc69cc3c27f5f73809bc57ff3fecd629e20ef8ede604", func := "loop.example/sundials/laws.FnExactSiteLight", spec := "fnExactSiteLight", unfollowed := true, recurses := true, apart := false, narrowed := true }
def FnExactSiteLightUptoSaid : Prop := fnExactSiteLightUptoRow.holds Try.pinned (OpenSpec.upto fnExactSiteLightSpec)

/-- 'laws.FnExactSiteGain', WHERE WHAT IT READS IS OF BULK AT MOST 1048576: true; the input reads as it did. -/
def fnExactSiteGainUptoRow : OpenClaim := { program := "ytigndpajpofofaa", sum := "0d2af267e1ada6cf8dd9dc69cc3c27f5f73809bc57ff3fecd629e20ef8ede604", func := "loop.example/sundials/laws.FnExactSiteGain", spec := "fnExactSiteGain", unfollowed := true, recurses := true, apart := false, narrowed := true }
def FnExactSiteGainUptoSaid : Prop := fnExactSiteGainUptoRow.holds Try.pinned (OpenSpec.upto fnExactSiteGainSpec)

end Rows
end Go.Proofs.Ytigndpajpofofaa
