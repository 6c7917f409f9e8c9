/-
  No cell of these rows narrows 'for every input' (looked for: loops, veiled, ifaces, maps, wideKeys, modest, calm, conditions, laid).
  DERIVED. THE GIVEN ROWS OF THIS SEAT. 7 by the template 'for every input the law returns true; each argument reads behind the call as it read before'; 0 by the template 'total and deterministic' (their statements: YtbklgpghonigjaaGreatTotals.lean).
  GIVEN WITH THE SEED: the statements are not yours to turn. If you find one false, say at which input.
  Laid BY PROGRAM, IN A SANDBOX (cutbox-rows.mjs): the forced cells as the released guide's own fill.sh prints them over the translation b8479e65af02bf0b… (all of the seat's roots in one cut). By AI agents, Wed Nov 11 2026. No macro, syntax, notation, axiom, sorry.
-/
import Derived.Test.YtbklgpghonigjaaGreatChecked
import GoSem.Claim
import GoSem.ClaimJoined
import GoSem.ClaimMapViews
import Derived.JoinedTies
import Derived.KernelRfl
namespace Go.Proofs.YtbklgpghonigjaaGreat
/- THE CELL 'sum', in the pinned program and in every row, IS THE sha256 OF THE DUMP (.gsa) THAT YtbklgpghonigjaaGreatProg.lean LOADS. Nothing in Lean hashes anything: it is a label: what it is worth is what the hold of that sum in a sandbox is worth. -/
noncomputable def Tryz.pinned : Pinned := { name := "ytbklgpghonigjaagreat", sum := "b8479e65af02bf0bfb3d5a9f7cc03a5dd389518b1ce36f7ace82290bdd1d4a4c", checked := Tryz.checked }
namespace Rows
def none {H : Type} : Left H := { results := [], args := [] }

/-- 'laws.FnSiteLight': WHATEVER THE INPUT: true; the input reads as it did. -/
def fnSiteLightSpec : ChangeSpec := { name := "fnSiteLight", fn := fun _ => fun
  | [d] => { results := [.lit (.bool true)], args := [d] }
  | _ => none }
def fnSiteLightRow : OpenClaim := { program := "ytbklgpghonigjaagreat", sum := "b8479e65af02bf0bfb3d5a9f7cc03a5dd389518b1ce36f7ace82290bdd1d4a4c", func := "loop.example/sundials/laws.FnSiteLight", spec := "fnSiteLight", unfollowed := true, recurses := true, apart := false }
def FnSiteLightSaid : Prop := fnSiteLightRow.holds Tryz.pinned (OpenSpec.ofChange fnSiteLightSpec)

/-- ITS FALSE NEIGHBOUR: 'it returns false'. Refute it at one input. -/
def fnSiteLightWrong : ChangeSpec := { name := "fnSiteLight", fn := fun _ => fun
  | [d] => { results := [.lit (.bool false)], args := [d] }
  | _ => none }
def FnSiteLightWrongFalsely : Prop := fnSiteLightRow.holds Tryz.pinned (OpenSpec.ofChange fnSiteLightWrong)

/-- 'laws.FnSiteGain': WHATEVER THE INPUT: true; the input reads as it did. -/
def fnSiteGainSpec : ChangeSpec := { name := "fnSiteGain", fn := fun _ => fun
  | [d] => { results := [.lit (.bool true)], args := [d] }
  | _ => none }
def fnSiteGainRow : OpenClaim := { program := "ytbklgpghonigjaagreat", sum := "b8479e65af02bf0bfb3d5a9f7cc03a5dd389518b1ce36f7ace82290bdd1d4a4c", func := "loop.example/sundials/laws.FnSiteGain", spec := "fnSiteGain", unfollowed := true, recurses := true, apart := false }
def FnSiteGainSaid : Prop := fnSiteGainRow.holds Tryz.pinned (OpenSpec.ofChange fnSiteGainSpec)

/-- ITS FALSE NEIGHBOUR: 'it returns false'. Refute it at one input. -/
def fnSiteGainWrong : ChangeSpec := { name := "fnSiteGain", fn := fun _ => fun
  | [d] => { results := [.lit (.bool false)], args := [d] }
  | _ => none }
def FnSiteGainWrongFalsely : Prop := fnSiteGainRow.holds Tryz.pinned (OpenSpec.ofChange fnSiteGainWrong)

/-- 'laws.FnSiteTick': WHATEVER THE INPUT: true; the input reads as it did. -/
def fnSiteTickSpec : ChangeSpec := { name := "fnSiteTick", fn := fun _ => fun
  | [d] => { results := [.lit (.bool true)], args := [d] }
  | _ => none }
def fnSiteTickRow : OpenClaim := { program := "ytbklgpghonigjaagreat", sum := "b8479e65af02bf0bfb3d5a9f7cc03a5dd389518b1ce36f7ace82290bdd1d4a4c", func := "loop.example/sundials/laws.FnSiteTick", spec := "fnSiteTick", unfollowed := true, recurses := true, apart := false }
def FnSiteTickSaid : Prop := fnSiteTickRow.holds Tryz.pinned (OpenSpec.ofChange fnSiteTickSpec)

/-- ITS FALSE NEIGHBOUR: 'it returns false'. Refute it at one input. -/
def fnSiteTickWrong : ChangeSpec := { name := "fnSiteTick", fn := fun _ => fun
  | [d] => { results := [.lit (.bool false)], args := [d] }
  | _ => none }
def FnSiteTickWrongFalsely : Prop := fnSiteTickRow.holds Tryz.pinned (OpenSpec.ofChange fnSiteTickWrong)

/-- 'laws.FnSiteTicks': WHATEVER THE INPUT: true; the input reads as it did. -/
def fnSiteTicksSpec : ChangeSpec := { name := "fnSiteTicks", fn := fun _ => fun
  | [d] => { results := [.lit (.bool true)], args := [d] }
  | _ => none }
def fnSiteTicksRow : OpenClaim := { program := "ytbklgpghonigjaagreat", sum := "b8479e65af02bf0bfb3d5a9f7cc03a5dd389518b1ce36f7ace82290bdd1d4a4c", func := "loop.example/sundials/laws.FnSiteTicks", spec := "fnSiteTicks", unfollowed := true, recurses := true, apart := false }
def FnSiteTicksSaid : Prop := fnSiteTicksRow.holds Tryz.pinned (OpenSpec.ofChange fnSiteTicksSpec)

/-- ITS FALSE NEIGHBOUR: 'it returns false'. Refute it at one input. -/
def fnSiteTicksWrong : ChangeSpec := { name := "fnSiteTicks", fn := fun _ => fun
  | [d] => { results := [.lit (.bool false)], args := [d] }
  | _ => none }
def FnSiteTicksWrongFalsely : Prop := fnSiteTicksRow.holds Tryz.pinned (OpenSpec.ofChange fnSiteTicksWrong)

/-- 'laws.FnSiteLights': WHATEVER THE INPUT: true; the input reads as it did. -/
def fnSiteLightsSpec : ChangeSpec := { name := "fnSiteLights", fn := fun _ => fun
  | [d] => { results := [.lit (.bool true)], args := [d] }
  | _ => none }
def fnSiteLightsRow : OpenClaim := { program := "ytbklgpghonigjaagreat", sum := "b8479e65af02bf0bfb3d5a9f7cc03a5dd389518b1ce36f7ace82290bdd1d4a4c", func := "loop.example/sundials/laws.FnSiteLights", spec := "fnSiteLights", unfollowed := true, recurses := true, apart := false }
def FnSiteLightsSaid : Prop := fnSiteLightsRow.holds Tryz.pinned (OpenSpec.ofChange fnSiteLightsSpec)

/-- ITS FALSE NEIGHBOUR: 'it returns false'. Refute it at one input. -/
def fnSiteLightsWrong : ChangeSpec := { name := "fnSiteLights", fn := fun _ => fun
  | [d] => { results := [.lit (.bool false)], args := [d] }
  | _ => none }
def FnSiteLightsWrongFalsely : Prop := fnSiteLightsRow.holds Tryz.pinned (OpenSpec.ofChange fnSiteLightsWrong)

/-- 'laws.FnSiteDo': WHATEVER THE INPUT: true; the input reads as it did. -/
def fnSiteDoSpec : ChangeSpec := { name := "fnSiteDo", fn := fun _ => fun
  | [d] => { results := [.lit (.bool true)], args := [d] }
  | _ => none }
def fnSiteDoRow : OpenClaim := { program := "ytbklgpghonigjaagreat", sum := "b8479e65af02bf0bfb3d5a9f7cc03a5dd389518b1ce36f7ace82290bdd1d4a4c", func := "loop.example/sundials/laws.FnSiteDo", spec := "fnSiteDo", unfollowed := true, recurses := true, apart := false }
def FnSiteDoSaid : Prop := fnSiteDoRow.holds Tryz.pinned (OpenSpec.ofChange fnSiteDoSpec)

/-- ITS FALSE NEIGHBOUR: 'it returns false'. Refute it at one input. -/
def fnSiteDoWrong : ChangeSpec := { name := "fnSiteDo", fn := fun _ => fun
  | [d] => { results := [.lit (.bool false)], args := [d] }
  | _ => none }
def FnSiteDoWrongFalsely : Prop := fnSiteDoRow.holds Tryz.pinned (OpenSpec.ofChange fnSiteDoWrong)

/-- 'laws.FnSiteRun': WHATEVER THE INPUT: true; the input reads as it did. -/
def fnSiteRunSpec : ChangeSpec := { name := "fnSiteRun", fn := fun _ => fun
  | [d] => { results := [.lit (.bool true)], args := [d] }
  | _ => none }
def fnSiteRunRow : OpenClaim := { program := "ytbklgpghonigjaagreat", sum := "b8479e65af02bf0bfb3d5a9f7cc03a5dd389518b1ce36f7ace82290bdd1d4a4c", func := "loop.example/sundials/laws.FnSiteRun", spec := "fnSiteRun", unfollowed := true, recurses := true, apart := false }
def FnSiteRunSaid : Prop := fnSiteRunRow.holds Tryz.pinned (OpenSpec.ofChange fnSiteRunSpec)

/-- ITS FALSE NEIGHBOUR: 'it returns false'. Refute it at one input. -/
def fnSiteRunWrong : ChangeSpec := { name := "fnSiteRun", fn := fun _ => fun
  | [d] => { results := [.lit (.bool false)], args := [d] }
  | _ => none }
def FnSiteRunWrongFalsely : Prop := fnSiteRunRow.holds Tryz.pinned (OpenSpec.ofChange fnSiteRunWrong)

/- THE SECOND FORM. 'bulk': how many values and letters a reading holds, each counted each time it is reached (what is shared counts as often as it is met; a slice's spare places count too). A statement '..UptoSaid' is the law's where the arguments, and the package variables that the reading takes, are together of bulk at most 1048576: NARROWER than '..Said'. Prove '..Said' where nothing that the law and all that it calls make is longer than what came in: it says more and counts as full. Else prove '..UptoSaid'. A law counts once. -/
mutual
def uptoBulk {H : Type} : DataW H → Nat
  | .lit (.string bytes) => bytes.length + 1
  | .lit _ => 1
  | .nil => 1
  | .ptr d => uptoBulk d + 1
  | .slice elems spare => uptoBulkAll elems + uptoBulkAll spare + 1
  | .agg parts => uptoBulkAll parts + 1
  | .iface _ d => uptoBulk d + 1
  | .map entries => uptoBulkEntries entries + 1
  | .held _ => 1
def uptoBulkAll {H : Type} : List (DataW H) → Nat
  | [] => 0
  | d :: r => uptoBulk d + uptoBulkAll r
def uptoBulkEntries {H : Type} : List (Lit × DataW H) → Nat
  | [] => 0
  | x :: r => uptoBulkEntry x + uptoBulkEntries r
def uptoBulkEntry {H : Type} : Lit × DataW H → Nat
  | (.string bytes, d) => bytes.length + uptoBulk d + 1
  | (_, d) => uptoBulk d + 1
 end
def uptoSmall : (H : Type) → List (DataW H) → Bool := fun _ ds => decide (uptoBulkAll ds ≤ 1048576)
def OpenSpec.upto (s : _root_.Go.ChangeSpec) : _root_.Go.OpenSpec := { _root_.Go.OpenSpec.ofChange s with cond := some uptoSmall }

/-- 'laws.FnSiteLight', WHERE WHAT IT READS IS OF BULK AT MOST 1048576: true; the input reads as it did. -/
def fnSiteLightUptoRow : OpenClaim := { program := "ytbklgpghonigjaagreat", sum := "b8479e65af02bf0bfb3d5a9f7cc03a5dd389518b1ce36f7ace82290bdd1d4a4c", func := "loop.example/sundials/laws.FnSiteLight", spec := "fnSiteLight", unfollowed := true, recurses := true, apart := false, narrowed := true }
def FnSiteLightUptoSaid : Prop := fnSiteLightUptoRow.holds Tryz.pinned (OpenSpec.upto fnSiteLightSpec)

/-- 'laws.FnSiteGain', WHERE WHAT IT READS IS OF BULK AT MOST 1048576: true; the input reads as it did. -/
def fnSiteGainUptoRow : OpenClaim := { program := "ytbklgpghonigjaagreat", sum := "b8479e65af02bf0bfb3d5a9f7cc03a5dd389518b1ce36f7ace82290bdd1d4a4c", func := "loop.example/sundials/laws.FnSiteGain", spec := "fnSiteGain", unfollowed := true, recurses := true, apart := false, narrowed := true }
def FnSiteGainUptoSaid : Prop := fnSiteGainUptoRow.holds Tryz.pinned (OpenSpec.upto fnSiteGainSpec)

/-- 'laws.FnSiteTick', WHERE WHAT IT READS IS OF BULK AT MOST 1048576: true; the input reads as it did. -/
def fnSiteTickUptoRow : OpenClaim := { program := "ytbklgpghonigjaagreat", sum := "b8479e65af02bf0bfb3d5a9f7cc03a5dd389518b1ce36f7ace82290bdd1d4a4c", func := "loop.example/sundials/laws.FnSiteTick", spec := "fnSiteTick", unfollowed := true, recurses := true, apart := false, narrowed := true }
def FnSiteTickUptoSaid : Prop := fnSiteTickUptoRow.holds Tryz.pinned (OpenSpec.upto fnSiteTickSpec)

/-- 'laws.FnSiteTicks', WHERE WHAT IT READS IS OF BULK AT MOST 1048576: true; the input reads as it did. -/
def fnSiteTicksUptoRow : OpenClaim := { program := "ytbklgpghonigjaagreat", sum := "b8479e65af02bf0bfb3d5a9f7cc03a5dd389518b1ce36f7ace82290bdd1d4a4c", func := "loop.example/sundials/laws.FnSiteTicks", spec := "fnSiteTicks", unfollowed := true, recurses := true, apart := false, narrowed := true }
def FnSiteTicksUptoSaid : Prop := fnSiteTicksUptoRow.holds Tryz.pinned (OpenSpec.upto fnSiteTicksSpec)

/-- 'laws.FnSiteLights', WHERE WHAT IT READS IS OF BULK AT MOST 1048576: true; the input reads as it did. -/
def fnSiteLightsUptoRow : OpenClaim := { program := "ytbklgpghonigjaagreat", sum := "b8479e65af02bf0bfb3d5a9f7cc03a5dd389518b1ce36f7ace82290bdd1d4a4c", func := "loop.example/sundials/laws.FnSiteLights", spec := "fnSiteLights", unfollowed := true, recurses := true, apart := false, narrowed := true }
def FnSiteLightsUptoSaid : Prop := fnSiteLightsUptoRow.holds Tryz.pinned (OpenSpec.upto fnSiteLightsSpec)

/-- 'laws.FnSiteDo', WHERE WHAT IT READS IS OF BULK AT MOST 1048576: true; the input reads as it did. -/
def fnSiteDoUptoRow : OpenClaim := { program := "ytbklgpghonigjaagreat", sum := "b8479e65af02bf0bfb3d5a9f7cc03a5dd389518b1ce36f7ace82290bdd1d4a4c", func := "loop.example/sundials/laws.FnSiteDo", spec := "fnSiteDo", unfollowed := true, recurses := true, apart := false, narrowed := true }
def FnSiteDoUptoSaid : Prop := fnSiteDoUptoRow.holds Tryz.pinned (OpenSpec.upto fnSiteDoSpec)

/-- 'laws.FnSiteRun', WHERE WHAT IT READS IS OF BULK AT MOST 1048576: true; the input reads as it did. -/
def fnSiteRunUptoRow : OpenClaim := { program := "ytbklgpghonigjaagreat", sum := "b8479e65af02bf0bfb3d5a9f7cc03a5dd389518b1ce36f7ace82290bdd1d4a4c", func := "loop.example/sundials/laws.FnSiteRun", spec := "fnSiteRun", unfollowed := true, recurses := true, apart := false, narrowed := true }
def FnSiteRunUptoSaid : Prop := fnSiteRunUptoRow.holds Tryz.pinned (OpenSpec.upto fnSiteRunSpec)

end Rows
end Go.Proofs.YtbklgpghonigjaaGreat
