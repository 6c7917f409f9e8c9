/-
  No cell of these rows narrows 'for every input' (looked for: loops, veiled, ifaces, maps, wideKeys, modest, calm, conditions, laid).
  DERIVED. THE GIVEN ROWS OF THIS SEAT. 9 by the template 'for every input the law returns true; each argument reads behind the call as it read before'; 0 by the template 'total and deterministic' (their statements: YtmmnhgkcdhdmkaaTotals.lean).
  GIVEN WITH THE SEED: the statements are not yours to turn. If you find one false, say at which input.
  Laid BY PROGRAM, IN A SANDBOX (cutbox-rows.mjs): the forced cells as the released guide's own fill.sh prints them over the translation 02f61b9f4f4ef48b… (all of the seat's roots in one cut). By AI agents, Wed Nov 11 2026. No macro, syntax, notation, axiom, sorry.
-/
import Derived.Test.YtmmnhgkcdhdmkaaChecked
import GoSem.Claim
import GoSem.ClaimJoined
import GoSem.ClaimMapViews
import Derived.JoinedTies
import Derived.KernelRfl
namespace Go.Proofs.Ytmmnhgkcdhdmkaa
/- THE CELL 'sum', in the pinned program and in every row, IS THE sha256 OF THE DUMP (.gsa) THAT YtmmnhgkcdhdmkaaProg.lean LOADS. Nothing in Lean hashes anything: it is a label: what it is worth is what the hold of that sum in a sandbox is worth. -/
noncomputable def Try.pinned : Pinned := { name := "ytmmnhgkcdhdmkaa", sum := "02f61b9f4f4ef48becb99d3304e0041cc9fab679c6ac20c723d89feec23279ce", checked := Try.checked }
namespace Rows
def none {H : Type} : Left H := { results := [], args := [] }

/-- 'laws.FnExactBedsValid': WHATEVER THE INPUT: true; the input reads as it did. -/
def fnExactBedsValidSpec : ChangeSpec := { name := "fnExactBedsValid", fn := fun _ => fun
  | [d] => { results := [.lit (.bool true)], args := [d] }
  | _ => none }
def fnExactBedsValidRow : OpenClaim := { program := "ytmmnhgkcdhdmkaa", sum := "02f61b9f4f4ef48becb99d3304e0041cc9fab679c6ac20c723d89feec23279ce", func := "loop.example/sundials/laws.FnExactBedsValid", spec := "fnExactBedsValid", unfollowed := true, recurses := true, apart := false }
def FnExactBedsValidSaid : Prop := fnExactBedsValidRow.holds Try.pinned (OpenSpec.ofChange fnExactBedsValidSpec)

/-- ITS FALSE NEIGHBOUR: 'it returns false'. Refute it at one input. -/
def fnExactBedsValidWrong : ChangeSpec := { name := "fnExactBedsValid", fn := fun _ => fun
  | [d] => { results := [.lit (.bool false)], args := [d] }
  | _ => none }
def FnExactBedsValidWrongFalsely : Prop := fnExactBedsValidRow.holds Try.pinned (OpenSpec.ofChange fnExactBedsValidWrong)

/-- 'laws.FnExactPlantsValid': WHATEVER THE INPUT: true; the input reads as it did. -/
def fnExactPlantsValidSpec : ChangeSpec := { name := "fnExactPlantsValid", fn := fun _ => fun
  | [d] => { results := [.lit (.bool true)], args := [d] }
  | _ => none }
def fnExactPlantsValidRow : OpenClaim := { program := "ytmmnhgkcdhdmkaa", sum := "02f61b9f4f4ef48becb99d3304e0041cc9fab679c6ac20c723d89feec23279ce", func := "loop.example/sundials/laws.FnExactPlantsValid", spec := "fnExactPlantsValid", unfollowed := true, recurses := true, apart := false }
def FnExactPlantsValidSaid : Prop := fnExactPlantsValidRow.holds Try.pinned (OpenSpec.ofChange fnExactPlantsValidSpec)

/-- ITS FALSE NEIGHBOUR: 'it returns false'. Refute it at one input. -/
def fnExactPlantsValidWrong : ChangeSpec := { name := "fnExactPlantsValid", fn := fun _ => fun
  | [d] => { results := [.lit (.bool false)], args := [d] }
  | _ => none }
def FnExactPlantsValidWrongFalsely : Prop := fnExactPlantsValidRow.holds Try.pinned (OpenSpec.ofChange fnExactPlantsValidWrong)

/-- 'laws.FnExactPlantedOk': WHATEVER THE INPUT: true; the input reads as it did. -/
def fnExactPlantedOkSpec : ChangeSpec := { name := "fnExactPlantedOk", fn := fun _ => fun
  | [d1, d2, d3] => { results := [.lit (.bool true)], args := [d1, d2, d3] }
  | _ => none }
def fnExactPlantedOkRow : OpenClaim := { program := "ytmmnhgkcdhdmkaa", sum := "02f61b9f4f4ef48becb99d3304e0041cc9fab679c6ac20c723d89feec23279ce", func := "loop.example/sundials/laws.FnExactPlantedOk", spec := "fnExactPlantedOk", unfollowed := true, recurses := true, apart := false }
def FnExactPlantedOkSaid : Prop := fnExactPlantedOkRow.holds Try.pinned (OpenSpec.ofChange fnExactPlantedOkSpec)

/-- ITS FALSE NEIGHBOUR: 'it returns false'. Refute it at one input. -/
def fnExactPlantedOkWrong : ChangeSpec := { name := "fnExactPlantedOk", fn := fun _ => fun
  | [d1, d2, d3] => { results := [.lit (.bool false)], args := [d1, d2, d3] }
  | _ => none }
def FnExactPlantedOkWrongFalsely : Prop := fnExactPlantedOkRow.holds Try.pinned (OpenSpec.ofChange fnExactPlantedOkWrong)

/-- 'laws.FnExactPlantedMany': WHATEVER THE INPUT: true; the input reads as it did. -/
def fnExactPlantedManySpec : ChangeSpec := { name := "fnExactPlantedMany", fn := fun _ => fun
  | [d1, d2, d3] => { results := [.lit (.bool true)], args := [d1, d2, d3] }
  | _ => none }
def fnExactPlantedManyRow : OpenClaim := { program := "ytmmnhgkcdhdmkaa", sum := "02f61b9f4f4ef48becb99d3304e0041cc9fab679c6ac20c723d89feec23279ce", func := "loop.example/sundials/laws.FnExactPlantedMany", spec := "fnExactPlantedMany", unfollowed := true, recurses := true, apart := false }
def FnExactPlantedManySaid : Prop := fnExactPlantedManyRow.holds Try.pinned (OpenSpec.ofChange fnExactPlantedManySpec)

/-- ITS FALSE NEIGHBOUR: 'it returns false'. Refute it at one input. -/
def fnExactPlantedManyWrong : ChangeSpec := { name := "fnExactPlantedMany", fn := fun _ => fun
  | [d1, d2, d3] => { results := [.lit (.bool false)], args := [d1, d2, d3] }
  | _ => none }
def FnExactPlantedManyWrongFalsely : Prop := fnExactPlantedManyRow.holds Try.pinned (OpenSpec.ofChange fnExactPlantedManyWrong)

/-- 'laws.FnExactFriendsValid': WHATEVER THE INPUT: true; the input reads as it did. -/
def fnExactFriendsValidSpec : ChangeSpec := { name := "fnExactFriendsValid", fn := fun _ => fun
  | [d] => { results := [.lit (.bool true)], args := [d] }
  | _ => none }
def fnExactFriendsValidRow : OpenClaim := { program := "ytmmnhgkcdhdmkaa", sum := "02f61b9f4f4ef48becb99d3304e0041cc9fab679c6ac20c723d89feec23279ce", func := "loop.example/sundials/laws.FnExactFriendsValid", spec := "fnExactFriendsValid", apart := false }
def FnExactFriendsValidSaid : Prop := fnExactFriendsValidRow.holds Try.pinned (OpenSpec.ofChange fnExactFriendsValidSpec)

/-- ITS FALSE NEIGHBOUR: 'it returns false'. Refute it at one input. -/
def fnExactFriendsValidWrong : ChangeSpec := { name := "fnExactFriendsValid", fn := fun _ => fun
  | [d] => { results := [.lit (.bool false)], args := [d] }
  | _ => none }
def FnExactFriendsValidWrongFalsely : Prop := fnExactFriendsValidRow.holds Try.pinned (OpenSpec.ofChange fnExactFriendsValidWrong)

/-- 'laws.FnExactLineOk': WHATEVER THE INPUT: true; the input reads as it did. -/
def fnExactLineOkSpec : ChangeSpec := { name := "fnExactLineOk", fn := fun _ => fun
  | [d1, d2] => { results := [.lit (.bool true)], args := [d1, d2] }
  | _ => none }
def fnExactLineOkRow : OpenClaim := { program := "ytmmnhgkcdhdmkaa", sum := "02f61b9f4f4ef48becb99d3304e0041cc9fab679c6ac20c723d89feec23279ce", func := "loop.example/sundials/laws.FnExactLineOk", spec := "fnExactLineOk", apart := false }
def FnExactLineOkSaid : Prop := fnExactLineOkRow.holds Try.pinned (OpenSpec.ofChange fnExactLineOkSpec)

/-- ITS FALSE NEIGHBOUR: 'it returns false'. Refute it at one input. -/
def fnExactLineOkWrong : ChangeSpec := { name := "fnExactLineOk", fn := fun _ => fun
  | [d1, d2] => { results := [.lit (.bool false)], args := [d1, d2] }
  | _ => none }
def FnExactLineOkWrongFalsely : Prop := fnExactLineOkRow.holds Try.pinned (OpenSpec.ofChange fnExactLineOkWrong)

/-- 'laws.FnExactLinesMany': WHATEVER THE INPUT: true; the input reads as it did. -/
def fnExactLinesManySpec : ChangeSpec := { name := "fnExactLinesMany", fn := fun _ => fun
  | [d] => { results := [.lit (.bool true)], args := [d] }
  | _ => none }
def fnExactLinesManyRow : OpenClaim := { program := "ytmmnhgkcdhdmkaa", sum := "02f61b9f4f4ef48becb99d3304e0041cc9fab679c6ac20c723d89feec23279ce", func := "loop.example/sundials/laws.FnExactLinesMany", spec := "fnExactLinesMany", apart := false }
def FnExactLinesManySaid : Prop := fnExactLinesManyRow.holds Try.pinned (OpenSpec.ofChange fnExactLinesManySpec)

/-- ITS FALSE NEIGHBOUR: 'it returns false'. Refute it at one input. -/
def fnExactLinesManyWrong : ChangeSpec := { name := "fnExactLinesMany", fn := fun _ => fun
  | [d] => { results := [.lit (.bool false)], args := [d] }
  | _ => none }
def FnExactLinesManyWrongFalsely : Prop := fnExactLinesManyRow.holds Try.pinned (OpenSpec.ofChange fnExactLinesManyWrong)

/-- 'laws.FnExactWaterRun': WHATEVER THE INPUT: true; the input reads as it did. -/
def fnExactWaterRunSpec : ChangeSpec := { name := "fnExactWaterRun", fn := fun _ => fun
  | [d1, d2, d3] => { results := [.lit (.bool true)], args := [d1, d2, d3] }
  | _ => none }
def fnExactWaterRunRow : OpenClaim := { program := "ytmmnhgkcdhdmkaa", sum := "02f61b9f4f4ef48becb99d3304e0041cc9fab679c6ac20c723d89feec23279ce", func := "loop.example/sundials/laws.FnExactWaterRun", spec := "fnExactWaterRun", unfollowed := true, recurses := true, apart := false }
def FnExactWaterRunSaid : Prop := fnExactWaterRunRow.holds Try.pinned (OpenSpec.ofChange fnExactWaterRunSpec)

/-- ITS FALSE NEIGHBOUR: 'it returns false'. Refute it at one input. -/
def fnExactWaterRunWrong : ChangeSpec := { name := "fnExactWaterRun", fn := fun _ => fun
  | [d1, d2, d3] => { results := [.lit (.bool false)], args := [d1, d2, d3] }
  | _ => none }
def FnExactWaterRunWrongFalsely : Prop := fnExactWaterRunRow.holds Try.pinned (OpenSpec.ofChange fnExactWaterRunWrong)

/-- 'laws.FnExactWaterOk': WHATEVER THE INPUT: true; the input reads as it did. -/
def fnExactWaterOkSpec : ChangeSpec := { name := "fnExactWaterOk", fn := fun _ => fun
  | [d1, d2, d3, d4] => { results := [.lit (.bool true)], args := [d1, d2, d3, d4] }
  | _ => none }
def fnExactWaterOkRow : OpenClaim := { program := "ytmmnhgkcdhdmkaa", sum := "02f61b9f4f4ef48becb99d3304e0041cc9fab679c6ac20c723d89feec23279ce", func := "loop.example/sundials/laws.FnExactWaterOk", spec := "fnExactWaterOk", unfollowed := true, recurses := true, apart := false }
def FnExactWaterOkSaid : Prop := fnExactWaterOkRow.holds Try.pinned (OpenSpec.ofChange fnExactWaterOkSpec)

/-- ITS FALSE NEIGHBOUR: 'it returns false'. Refute it at one input. -/
def fnExactWaterOkWrong : ChangeSpec := { name := "fnExactWaterOk", fn := fun _ => fun
  | [d1, d2, d3, d4] => { results := [.lit (.bool false)], args := [d1, d2, d3, d4] }
  | _ => none }
def FnExactWaterOkWrongFalsely : Prop := fnExactWaterOkRow.holds Try.pinned (OpenSpec.ofChange fnExactWaterOkWrong)

/- THE SECOND FORM. 'bulk': how many values and letters a reading holds, each counted each time it is reached (what is shared counts as often as it is met; a slice's spare places count too). A statement '..UptoSaid' is the law's where the arguments, and the package variables that the reading takes, are together of bulk at most 1048576: NARROWER than '..Said'. Prove '..Said' where nothing that the law and all that it calls make is longer than what came in: it says more and counts as full. Else prove '..UptoSaid'. A law counts once. -/
mutual
def uptoBulk {H : Type} : DataW H → Nat
  | .lit (.string bytes) => bytes.length + 1
  | .lit _ => 1
  | .nil => 1
  | .ptr d => uptoBulk d + 1
  | .slice elems spare => uptoBulkAll elems + uptoBulkAll spare + 1
  | .agg parts => uptoBulkAll parts + 1
  | .iface _ d => uptoBulk d + 1
  | .map entries => uptoBulkEntries entries + 1
  | .held _ => 1
def uptoBulkAll {H : Type} : List (DataW H) → Nat
  | [] => 0
  | d :: r => uptoBulk d + uptoBulkAll r
def uptoBulkEntries {H : Type} : List (Lit × DataW H) → Nat
  | [] => 0
  | x :: r => uptoBulkEntry x + uptoBulkEntries r
def uptoBulkEntry {H : Type} : Lit × DataW H → Nat
  | (.string bytes, d) => bytes.length + uptoBulk d + 1
  | (_, d) => uptoBulk d + 1
 end
def uptoSmall : (H : Type) → List (DataW H) → Bool := fun _ ds => decide (uptoBulkAll ds ≤ 1048576)
def OpenSpec.upto (s : _root_.Go.ChangeSpec) : _root_.Go.OpenSpec := { _root_.Go.OpenSpec.ofChange s with cond := some uptoSmall }

/-- 'laws.FnExactBedsValid', WHERE WHAT IT READS IS OF BULK AT MOST 1048576: true; the input reads as it did. -/
def fnExactBedsValidUptoRow : OpenClaim := { program := "ytmmnhgkcdhdmkaa", sum := "02f61b9f4f4ef48becb99d3304e0041cc9fab679c6ac20c723d89feec23279ce", func := "loop.example/sundials/laws.FnExactBedsValid", spec := "fnExactBedsValid", unfollowed := true, recurses := true, apart := false, narrowed := true }
def FnExactBedsValidUptoSaid : Prop := fnExactBedsValidUptoRow.holds Try.pinned (OpenSpec.upto fnExactBedsValidSpec)

/-- 'laws.FnExactPlantsValid', WHERE WHAT IT READS IS OF BULK AT MOST 1048576: true; the input reads as it did. -/
def fnExactPlantsValidUptoRow : OpenClaim := { program := "ytmmnhgkcdhdmkaa", sum := "02f61b9f4f4ef48becb99d3304e0041cc9fab679c6ac20c723d89feec23279ce", func := "loop.example/sundials/laws.FnExactPlantsValid", spec := "fnExactPlantsValid", unfollowed := true, recurses := true, apart := false, narrowed := true }
def FnExactPlantsValidUptoSaid : Prop := fnExactPlantsValidUptoRow.holds Try.pinned (OpenSpec.upto fnExactPlantsValidSpec)

/-- 'laws.FnExactPlantedOk', WHERE WHAT IT READS IS OF BULK AT MOST 1048576: true; the input reads as it did. -/
def fnExactPlantedOkUptoRow : OpenClaim := { program := "ytmmnhgkcdhdmkaa", sum := "02f61b9f4f4ef48becb99d3304e0041cc9fab679c6ac20c723d89feec23279ce", func := "loop.example/sundials/laws.FnExactPlantedOk", spec := "fnExactPlantedOk", unfollowed := true, recurses := true, apart := false, narrowed := true }
def FnExactPlantedOkUptoSaid : Prop := fnExactPlantedOkUptoRow.holds Try.pinned (OpenSpec.upto fnExactPlantedOkSpec)

/-- 'laws.FnExactPlantedMany', WHERE WHAT IT READS IS OF BULK AT MOST 1048576: true; the input reads as it did. -/
def fnExactPlantedManyUptoRow : OpenClaim := { program := "ytmmnhgkcdhdmkaa", sum := "02f61b9f4f4ef48becb99d3304e0041cc9fab679c6ac20c723d89feec23279ce", func := "loop.example/sundials/laws.FnExactPlantedMany", spec := "fnExactPlantedMany", unfollowed := true, recurses := true, apart := false, narrowed := true }
def FnExactPlantedManyUptoSaid : Prop := fnExactPlantedManyUptoRow.holds Try.pinned (OpenSpec.upto fnExactPlantedManySpec)

/-- 'laws.FnExactFriendsValid', WHERE WHAT IT READS IS OF BULK AT MOST 1048576: true; the input reads as it did. -/
def fnExactFriendsValidUptoRow : OpenClaim := { program := "ytmmnhgkcdhdmkaa", sum := "02f61b9f4f4ef48becb99d3304e0041cc9fab679c6ac20c723d89feec23279ce", func := "loop.example/sundials/laws.FnExactFriendsValid", spec := "fnExactFriendsValid", apart := false, narrowed := true }
def FnExactFriendsValidUptoSaid : Prop := fnExactFriendsValidUptoRow.holds Try.pinned (OpenSpec.upto fnExactFriendsValidSpec)

/-- 'laws.FnExactLineOk', WHERE WHAT IT READS IS OF BULK AT MOST 1048576: true; the input reads as it did. -/
def fnExactLineOkUptoRow : OpenClaim := { program := "ytmmnhgkcdhdmkaa", sum := "02f61b9f4f4ef48becb99d3304e0041cc9fab679c6ac20c723d89feec23279ce", func := "loop.example/sundials/laws.FnExactLineOk", spec := "fnExactLineOk", apart := false, narrowed := true }
def FnExactLineOkUptoSaid : Prop := fnExactLineOkUptoRow.holds Try.pinned (OpenSpec.upto fnExactLineOkSpec)

/-- 'laws.FnExactLinesMany', WHERE WHAT IT READS IS OF BULK AT MOST 1048576: true; the input reads as it did. -/
def fnExactLinesManyUptoRow : OpenClaim := { program := "ytmmnhgkcdhdmkaa", sum := "02f61b9f4f4ef48becb99d3304e0041cc9fab679c6ac20c723d89feec23279ce", func := "loop.example/sundials/laws.FnExactLinesMany", spec := "fnExactLinesMany", apart := false, narrowed := true }
def FnExactLinesManyUptoSaid : Prop := fnExactLinesManyUptoRow.holds Try.pinned (OpenSpec.upto fnExactLinesManySpec)

/-- 'laws.FnExactWaterRun', WHERE WHAT IT READS IS OF BULK AT MOST 1048576: true; the input reads as it did. -/
def fnExactWaterRunUptoRow : OpenClaim := { program := "ytmmnhgkcdhdmkaa", sum := "02f61b9f4f4ef48becb99d3304e0041cc9fab679c6ac20c723d89feec23279ce", func := "loop.example/sundials/laws.FnExactWaterRun", spec := "fnExactWaterRun", unfollowed := true, recurses := true, apart := false, narrowed := true }
def FnExactWaterRunUptoSaid : Prop := fnExactWaterRunUptoRow.holds Try.pinned (OpenSpec.upto fnExactWaterRunSpec)

/-- 'laws.FnExactWaterOk', WHERE WHAT IT READS IS OF BULK AT MOST 1048576: true; the input reads as it did. -/
def fnExactWaterOkUptoRow : OpenClaim := { program := "ytmmnhgkcdhdmkaa", sum := "02f61b9f4f4ef48becb99d3304e0041cc9fab679c6ac20c723d89feec23279ce", func := "loop.example/sundials/laws.FnExactWaterOk", spec := "fnExactWaterOk", unfollowed := true, recurses := true, apart := false, narrowed := true }
def FnExactWaterOkUptoSaid : Prop := fnExactWaterOkUptoRow.holds Try.pinned (OpenSpec.upto fnExactWaterOkSpec)

end Rows
end Go.Proofs.Ytmmnhgkcdhdmkaa
