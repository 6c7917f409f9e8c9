/-
  No cell of these rows narrows 'for every input' (looked for: loops, veiled, ifaces, maps, wideKeys, modest, calm, conditions, laid).
  DERIVED. THE GIVEN ROWS OF THIS SEAT. 5 by the template 'for every input the law returns true; each argument reads behind the call as it read before'; 0 by the template 'total and deterministic' (their statements: YtigndpajpofofaaGreatTotals.lean).
  GIVEN WITH THE SEED: the statements are not yours to turn. If you find one false, say at which input.
  Laid BY PROGRAM, IN A SANDBOX (cutbox-rows.mjs): the forced cells as the released guide's own fill.sh prints them over the translation 055cae827976c4a1… (all of the seat's roots in one cut). By AI agents, Wed Nov 11 2026. No macro, syntax, notation, axiom, sorry.
-/
import Derived.Test.YtigndpajpofofaaGreatChecked
import GoSem.Claim
import GoSem.ClaimJoined
import GoSem.ClaimMapViews
import Derived.JoinedTies
import Derived.KernelRfl
namespace Go.Proofs.YtigndpajpofofaaGreat
/- THE CELL 'sum', in the pinned program and in every row, IS THE sha256 OF THE DUMP (.gsa) THAT YtigndpajpofofaaGreatProg.lean LOADS. Nothing in Lean hashes anything: it is a label: what it is worth is what the hold of that sum in a sandbox is worth. -/
noncomputable def Tryz.pinned : Pinned := { name := "ytigndpajpofofaagreat", sum := "055cae827976c4a1bad4b13cfa17609508fcb97d77d2075eb0877381258c981f", checked := Tryz.checked }
namespace Rows
def none {H : Type} : Left H := { results := [], args := [] }

/-- 'laws.FnExactSiteTick': WHATEVER THE INPUT: true; the input reads as it did. -/
def fnExactSiteTickSpec : ChangeSpec := { name := "fnExactSiteTick", fn := fun _ => fun
  | [d] => { results := [.lit (.bool true)], args := [d] }
  | _ => none }
def fnExactSiteTickRow : OpenClaim := { program := "ytigndpajpofofaagreat", sum := "055cae827976c4a1bad4b13cfa17609508fcb97d77d2075eb0877381258c981f", func := "loop.example/sundials/laws.FnExactSiteTick", spec := "fnExactSiteTick", unfollowed := true, recurses := true, apart := false }
def FnExactSiteTickSaid : Prop := fnExactSiteTickRow.holds Tryz.pinned (OpenSpec.ofChange fnExactSiteTickSpec)

/-- ITS FALSE NEIGHBOUR: 'it returns false'. Refute it at one input. -/
def fnExactSiteTickWrong : ChangeSpec := { name := "fnExactSiteTick", fn := fun _ => fun
  | [d] => { results := [.lit (.bool false)], args := [d] }
  | _ => none }
def FnExactSiteTickWrongFalsely : Prop := fnExactSiteTickRow.holds Tryz.pinned (OpenSpec.ofChange fnExactSiteTickWrong)

/-- 'laws.FnExactSiteTicks': WHATEVER THE INPUT: true; the input reads as it did. -/
def fnExactSiteTicksSpec : ChangeSpec := { name := "fnExactSiteTicks", fn := fun _ => fun
  | [d1, d2] => { results := [.lit (.bool true)], args := [d1, d2] }
  | _ => none }
def fnExactSiteTicksRow : OpenClaim := { program := "ytigndpajpofofaagreat", sum := "055cae827976c4a1bad4b13cfa17609508fcb97d77d2075eb0877381258c981f", func := "loop.example/sundials/laws.FnExactSiteTicks", spec := "fnExactSiteTicks", unfollowed := true, recurses := true, apart := false }
def FnExactSiteTicksSaid : Prop := fnExactSiteTicksRow.holds Tryz.pinned (OpenSpec.ofChange fnExactSiteTicksSpec)

/-- ITS FALSE NEIGHBOUR: 'it returns false'. Refute it at one input. -/
def fnExactSiteTicksWrong : ChangeSpec := { name := "fnExactSiteTicks", fn := fun _ => fun
  | [d1, d2] => { results := [.lit (.bool false)], args := [d1, d2] }
  | _ => none }
def FnExactSiteTicksWrongFalsely : Prop := fnExactSiteTicksRow.holds Tryz.pinned (OpenSpec.ofChange fnExactSiteTicksWrong)

/-- 'laws.FnExactSiteLights': WHATEVER THE INPUT: true; the input reads as it did. -/
def fnExactSiteLightsSpec : ChangeSpec := { name := "fnExactSiteLights", fn := fun _ => fun
  | [d1, d2] => { results := [.lit (.bool true)], args := [d1, d2] }
  | _ => none }
def fnExactSiteLightsRow : OpenClaim := { program := "ytigndpajpofofaagreat", sum := "055cae827976c4a1bad4b13cfa17609508fcb97d77d2075eb0877381258c981f", func := "loop.example/sundials/laws.FnExactSiteLights", spec := "fnExactSiteLights", unfollowed := true, recurses := true, apart := false }
def FnExactSiteLightsSaid : Prop := fnExactSiteLightsRow.holds Tryz.pinned (OpenSpec.ofChange fnExactSiteLightsSpec)

/-- ITS FALSE NEIGHBOUR: 'it returns false'. Refute it at one input. -/
def fnExactSiteLightsWrong : ChangeSpec := { name := "fnExactSiteLights", fn := fun _ => fun
  | [d1, d2] => { results := [.lit (.bool false)], args := [d1, d2] }
  | _ => none }
def FnExactSiteLightsWrongFalsely : Prop := fnExactSiteLightsRow.holds Tryz.pinned (OpenSpec.ofChange fnExactSiteLightsWrong)

/-- 'laws.FnExactSiteDo': WHATEVER THE INPUT: true; the input reads as it did. -/
def fnExactSiteDoSpec : ChangeSpec := { name := "fnExactSiteDo", fn := fun _ => fun
  | [d1, d2] => { results := [.lit (.bool true)], args := [d1, d2] }
  | _ => none }
def fnExactSiteDoRow : OpenClaim := { program := "ytigndpajpofofaagreat", sum := "055cae827976c4a1bad4b13cfa17609508fcb97d77d2075eb0877381258c981f", func := "loop.example/sundials/laws.FnExactSiteDo", spec := "fnExactSiteDo", unfollowed := true, recurses := true, apart := false }
def FnExactSiteDoSaid : Prop := fnExactSiteDoRow.holds Tryz.pinned (OpenSpec.ofChange fnExactSiteDoSpec)

/-- ITS FALSE NEIGHBOUR: 'it returns false'. Refute it at one input. -/
def fnExactSiteDoWrong : ChangeSpec := { name := "fnExactSiteDo", fn := fun _ => fun
  | [d1, d2] => { results := [.lit (.bool false)], args := [d1, d2] }
  | _ => none }
def FnExactSiteDoWrongFalsely : Prop := fnExactSiteDoRow.holds Tryz.pinned (OpenSpec.ofChange fnExactSiteDoWrong)

/-- 'laws.FnExactSiteRun': WHATEVER THE INPUT: true; the input reads as it did. -/
def fnExactSiteRunSpec : ChangeSpec := { name := "fnExactSiteRun", fn := fun _ => fun
  | [d1, d2] => { results := [.lit (.bool true)], args := [d1, d2] }
  | _ => none }
def fnExactSiteRunRow : OpenClaim := { program := "ytigndpajpofofaagreat", sum := "055cae827976c4a1bad4b13cfa17609508fcb97d77d2075eb0877381258c981f", func := "loop.example/sundials/laws.FnExactSiteRun", spec := "fnExactSiteRun", unfollowed := true, recurses := true, apart := false }
def FnExactSiteRunSaid : Prop := fnExactSiteRunRow.holds Tryz.pinned (OpenSpec.ofChange fnExactSiteRunSpec)

/-- ITS FALSE NEIGHBOUR: 'it returns false'. Refute it at one input. -/
def fnExactSiteRunWrong : ChangeSpec := { name := "fnExactSiteRun", fn := fun _ => fun
  | [d1, d2] => { results := [.lit (.bool false)], args := [d1, d2] }
  | _ => none }
def FnExactSiteRunWrongFalsely : Prop := fnExactSiteRunRow.holds Tryz.pinned (OpenSpec.ofChange fnExactSiteRunWrong)

/- THE SECOND FORM. 'bulk': how many values and letters a reading holds, each counted each time it is reached (what is shared counts as often as it is met; a slice's spare places count too). A statement '..UptoSaid' is the law's where the arguments, and the package variables that the reading takes, are together of bulk at most 1048576: NARROWER than '..Said'. Prove '..Said' where nothing that the law and all that it calls make is longer than what came in: it says more and counts as full. Else prove '..UptoSaid'. A law counts once. -/
mutual
def uptoBulk {H : Type} : DataW H → Nat
  | .lit (.string bytes) => bytes.length + 1
  | .lit _ => 1
  | .nil => 1
  | .ptr d => uptoBulk d + 1
  | .slice elems spare => uptoBulkAll elems + uptoBulkAll spare + 1
  | .agg parts => uptoBulkAll parts + 1
  | .iface _ d => uptoBulk d + 1
  | .map entries => uptoBulkEntries entries + 1
  | .held _ => 1
def uptoBulkAll {H : Type} : List (DataW H) → Nat
  | [] => 0
  | d :: r => uptoBulk d + uptoBulkAll r
def uptoBulkEntries {H : Type} : List (Lit × DataW H) → Nat
  | [] => 0
  | x :: r => uptoBulkEntry x + uptoBulkEntries r
def uptoBulkEntry {H : Type} : Lit × DataW H → Nat
  | (.string bytes, d) => bytes.length + uptoBulk d + 1
  | (_, d) => uptoBulk d + 1
 end
def uptoSmall : (H : Type) → List (DataW H) → Bool := fun _ ds => decide (uptoBulkAll ds ≤ 1048576)
def OpenSpec.upto (s : _root_.Go.ChangeSpec) : _root_.Go.OpenSpec := { _root_.Go.OpenSpec.ofChange s with cond := some uptoSmall }

/-- 'laws.FnExactSiteTick', WHERE WHAT IT READS IS OF BULK AT MOST 1048576: true; the input reads as it did. -/
def fnExactSiteTickUptoRow : OpenClaim := { program := "ytigndpajpofofaagreat", sum := "055cae827976c4a1bad4b13cfa17609508fcb97d77d2075eb0877381258c981f", func := "loop.example/sundials/laws.FnExactSiteTick", spec := "fnExactSiteTick", unfollowed := true, recurses := true, apart := false, narrowed := true }
def FnExactSiteTickUptoSaid : Prop := fnExactSiteTickUptoRow.holds Tryz.pinned (OpenSpec.upto fnExactSiteTickSpec)

/-- 'laws.FnExactSiteTicks', WHERE WHAT IT READS IS OF BULK AT MOST 1048576: true; the input reads as it did. -/
def fnExactSiteTicksUptoRow : OpenClaim := { program := "ytigndpajpofofaagreat", sum := "055cae827976c4a1bad4b13cfa17609508fcb97d77d2075eb0877381258c981f", func := "loop.example/sundials/laws.FnExactSiteTicks", spec := "fnExactSiteTicks", unfollowed := true, recurses := true, apart := false, narrowed := true }
def FnExactSiteTicksUptoSaid : Prop := fnExactSiteTicksUptoRow.holds Tryz.pinned (OpenSpec.upto fnExactSiteTicksSpec)

/-- 'laws.FnExactSiteLights', WHERE WHAT IT READS IS OF BULK AT MOST 1048576: true; the input reads as it did. -/
def fnExactSiteLightsUptoRow : OpenClaim := { program := "ytigndpajpofofaagreat", sum := "055cae827976c4a1bad4b13cfa17609508fcb97d77d2075eb0877381258c981f", func := "loop.example/sundials/laws.FnExactSiteLights", spec := "fnExactSiteLights", unfollowed := true, recurses := true, apart := false, narrowed := true }
def FnExactSiteLightsUptoSaid : Prop := fnExactSiteLightsUptoRow.holds Tryz.pinned (OpenSpec.upto fnExactSiteLightsSpec)

/-- 'laws.FnExactSiteDo', WHERE WHAT IT READS IS OF BULK AT MOST 1048576: true; the input reads as it did. -/
def fnExactSiteDoUptoRow : OpenClaim := { program := "ytigndpajpofofaagreat", sum := "055cae827976c4a1bad4b13cfa17609508fcb97d77d2075eb0877381258c981f", func := "loop.example/sundials/laws.FnExactSiteDo", spec := "fnExactSiteDo", unfollowed := true, recurses := true, apart := false, narrowed := true }
def FnExactSiteDoUptoSaid : Prop := fnExactSiteDoUptoRow.holds Tryz.pinned (OpenSpec.upto fnExactSiteDoSpec)

/-- 'laws.FnExactSiteRun', WHERE WHAT IT READS IS OF BULK AT MOST 1048576: true; the input reads as it did. -/
def fnExactSiteRunUptoRow : OpenClaim := { program := "ytigndpajpofofaagreat", sum := "055cae827976c4a1bad4b13cfa17609508fcb97d77d2075eb0877381258c981f", func := "loop.example/sundials/laws.FnExactSiteRun", spec := "fnExactSiteRun", unfollowed := true, recurses := true, apart := false, narrowed := true }
def FnExactSiteRunUptoSaid : Prop := fnExactSiteRunUptoRow.holds Tryz.pinned (OpenSpec.upto fnExactSiteRunSpec)

end Rows
end Go.Proofs.YtigndpajpofofaaGreat
