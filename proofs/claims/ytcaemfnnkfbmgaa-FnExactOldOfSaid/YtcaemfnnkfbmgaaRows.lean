/-
  No cell of these rows narrows 'for every input' (looked for: loops, veiled, ifaces, maps, wideKeys, modest, calm, conditions, laid).
  DERIVED. THE GIVEN ROWS OF THIS SEAT. 16 by the template 'for every input the law returns true; each argument reads behind the call as it read before'; 0 by the template 'total and deterministic' (their statements: YtcaemfnnkfbmgaaTotals.lean).
  GIVEN WITH THE SEED: the statements are not yours to turn. If you find one false, say at which input.
  Laid BY PROGRAM, IN A SANDBOX (cutbox-rows.mjs): the forced cells as the released guide's own fill.sh prints them over the translation 500c9ff7e1adbc36… (all of the seat's roots in one cut). By AI agents, Wed Nov 11 2026. No macro, syntax, notation, axiom, sorry.
-/
import Derived.Test.YtcaemfnnkfbmgaaChecked
import GoSem.Claim
import GoSem.ClaimJoined
import GoSem.ClaimMapViews
import Derived.JoinedTies
import Derived.KernelRfl
namespace Go.Proofs.Ytcaemfnnkfbmgaa
/- THE CELL 'sum', in the pinned program and in every row, IS THE sha256 OF THE DUMP (.gsa) THAT YtcaemfnnkfbmgaaProg.lean LOADS. Nothing in Lean hashes anything: it is a label: what it is worth is what the hold of that sum in a sandbox is worth. -/
noncomputable def Try.pinned : Pinned := { name := "ytcaemfnnkfbmgaa", sum := "500c9ff7e1adbc363b9067cec9d402e82c0e0b392e889773e2b81025ed30502b", checked := Try.checked }
namespace Rows
def none {H : Type} : Left H := { results := [], args := [] }

/-- 'laws.FnExactLeapYear': WHATEVER THE INPUT: true; the input reads as it did. -/
def fnExactLeapYearSpec : ChangeSpec := { name := "fnExactLeapYear", fn := fun _ => fun
  | [d] => { results := [.lit (.bool true)], args := [d] }
  | _ => none }
def fnExactLeapYearRow : OpenClaim := { program := "ytcaemfnnkfbmgaa", sum := "500c9ff7e1adbc363b9067cec9d402e82c0e0b392e889773e2b81025ed30502b", func := "loop.example/sundials/laws.FnExactLeapYear", spec := "fnExactLeapYear", apart := false }
def FnExactLeapYearSaid : Prop := fnExactLeapYearRow.holds Try.pinned (OpenSpec.ofChange fnExactLeapYearSpec)

/-- ITS FALSE NEIGHBOUR: 'it returns false'. Refute it at one input. -/
def fnExactLeapYearWrong : ChangeSpec := { name := "fnExactLeapYear", fn := fun _ => fun
  | [d] => { results := [.lit (.bool false)], args := [d] }
  | _ => none }
def FnExactLeapYearWrongFalsely : Prop := fnExactLeapYearRow.holds Try.pinned (OpenSpec.ofChange fnExactLeapYearWrong)

/-- 'laws.FnExactYearLong': WHATEVER THE INPUT: true; the input reads as it did. -/
def fnExactYearLongSpec : ChangeSpec := { name := "fnExactYearLong", fn := fun _ => fun
  | [d] => { results := [.lit (.bool true)], args := [d] }
  | _ => none }
def fnExactYearLongRow : OpenClaim := { program := "ytcaemfnnkfbmgaa", sum := "500c9ff7e1adbc363b9067cec9d402e82c0e0b392e889773e2b81025ed30502b", func := "loop.example/sundials/laws.FnExactYearLong", spec := "fnExactYearLong", apart := false }
def FnExactYearLongSaid : Prop := fnExactYearLongRow.holds Try.pinned (OpenSpec.ofChange fnExactYearLongSpec)

/-- ITS FALSE NEIGHBOUR: 'it returns false'. Refute it at one input. -/
def fnExactYearLongWrong : ChangeSpec := { name := "fnExactYearLong", fn := fun _ => fun
  | [d] => { results := [.lit (.bool false)], args := [d] }
  | _ => none }
def FnExactYearLongWrongFalsely : Prop := fnExactYearLongRow.holds Try.pinned (OpenSpec.ofChange fnExactYearLongWrong)

/-- 'laws.FnExactMonthLong': WHATEVER THE INPUT: true; the input reads as it did. -/
def fnExactMonthLongSpec : ChangeSpec := { name := "fnExactMonthLong", fn := fun _ => fun
  | [d1, d2] => { results := [.lit (.bool true)], args := [d1, d2] }
  | _ => none }
def fnExactMonthLongRow : OpenClaim := { program := "ytcaemfnnkfbmgaa", sum := "500c9ff7e1adbc363b9067cec9d402e82c0e0b392e889773e2b81025ed30502b", func := "loop.example/sundials/laws.FnExactMonthLong", spec := "fnExactMonthLong", apart := false }
def FnExactMonthLongSaid : Prop := fnExactMonthLongRow.holds Try.pinned (OpenSpec.ofChange fnExactMonthLongSpec)

/-- ITS FALSE NEIGHBOUR: 'it returns false'. Refute it at one input. -/
def fnExactMonthLongWrong : ChangeSpec := { name := "fnExactMonthLong", fn := fun _ => fun
  | [d1, d2] => { results := [.lit (.bool false)], args := [d1, d2] }
  | _ => none }
def FnExactMonthLongWrongFalsely : Prop := fnExactMonthLongRow.holds Try.pinned (OpenSpec.ofChange fnExactMonthLongWrong)

/-- 'laws.FnExactDateValid': WHATEVER THE INPUT: true; the input reads as it did. -/
def fnExactDateValidSpec : ChangeSpec := { name := "fnExactDateValid", fn := fun _ => fun
  | [d] => { results := [.lit (.bool true)], args := [d] }
  | _ => none }
def fnExactDateValidRow : OpenClaim := { program := "ytcaemfnnkfbmgaa", sum := "500c9ff7e1adbc363b9067cec9d402e82c0e0b392e889773e2b81025ed30502b", func := "loop.example/sundials/laws.FnExactDateValid", spec := "fnExactDateValid", apart := false }
def FnExactDateValidSaid : Prop := fnExactDateValidRow.holds Try.pinned (OpenSpec.ofChange fnExactDateValidSpec)

/-- ITS FALSE NEIGHBOUR: 'it returns false'. Refute it at one input. -/
def fnExactDateValidWrong : ChangeSpec := { name := "fnExactDateValid", fn := fun _ => fun
  | [d] => { results := [.lit (.bool false)], args := [d] }
  | _ => none }
def FnExactDateValidWrongFalsely : Prop := fnExactDateValidRow.holds Try.pinned (OpenSpec.ofChange fnExactDateValidWrong)

/-- 'laws.FnExactDayNumber': WHATEVER THE INPUT: true; the input reads as it did. -/
def fnExactDayNumberSpec : ChangeSpec := { name := "fnExactDayNumber", fn := fun _ => fun
  | [d] => { results := [.lit (.bool true)], args := [d] }
  | _ => none }
def fnExactDayNumberRow : OpenClaim := { program := "ytcaemfnnkfbmgaa", sum := "500c9ff7e1adbc363b9067cec9d402e82c0e0b392e889773e2b81025ed30502b", func := "loop.example/sundials/laws.FnExactDayNumber", spec := "fnExactDayNumber", apart := false }
def FnExactDayNumberSaid : Prop := fnExactDayNumberRow.holds Try.pinned (OpenSpec.ofChange fnExactDayNumberSpec)

/-- ITS FALSE NEIGHBOUR: 'it returns false'. Refute it at one input. -/
def fnExactDayNumberWrong : ChangeSpec := { name := "fnExactDayNumber", fn := fun _ => fun
  | [d] => { results := [.lit (.bool false)], args := [d] }
  | _ => none }
def FnExactDayNumberWrongFalsely : Prop := fnExactDayNumberRow.holds Try.pinned (OpenSpec.ofChange fnExactDayNumberWrong)

/-- 'laws.FnExactDateOf': WHATEVER THE INPUT: true; the input reads as it did. -/
def fnExactDateOfSpec : ChangeSpec := { name := "fnExactDateOf", fn := fun _ => fun
  | [d] => { results := [.lit (.bool true)], args := [d] }
  | _ => none }
def fnExactDateOfRow : OpenClaim := { program := "ytcaemfnnkfbmgaa", sum := "500c9ff7e1adbc363b9067cec9d402e82c0e0b392e889773e2b81025ed30502b", func := "loop.example/sundials/laws.FnExactDateOf", spec := "fnExactDateOf", apart := false }
def FnExactDateOfSaid : Prop := fnExactDateOfRow.holds Try.pinned (OpenSpec.ofChange fnExactDateOfSpec)

/-- ITS FALSE NEIGHBOUR: 'it returns false'. Refute it at one input. -/
def fnExactDateOfWrong : ChangeSpec := { name := "fnExactDateOf", fn := fun _ => fun
  | [d] => { results := [.lit (.bool false)], args := [d] }
  | _ => none }
def FnExactDateOfWrongFalsely : Prop := fnExactDateOfRow.holds Try.pinned (OpenSpec.ofChange fnExactDateOfWrong)

/-- 'laws.FnExactDateAdd': WHATEVER THE INPUT: true; the input reads as it did. -/
def fnExactDateAddSpec : ChangeSpec := { name := "fnExactDateAdd", fn := fun _ => fun
  | [d1, d2] => { results := [.lit (.bool true)], args := [d1, d2] }
  | _ => none }
def fnExactDateAddRow : OpenClaim := { program := "ytcaemfnnkfbmgaa", sum := "500c9ff7e1adbc363b9067cec9d402e82c0e0b392e889773e2b81025ed30502b", func := "loop.example/sundials/laws.FnExactDateAdd", spec := "fnExactDateAdd", apart := false }
def FnExactDateAddSaid : Prop := fnExactDateAddRow.holds Try.pinned (OpenSpec.ofChange fnExactDateAddSpec)

/-- ITS FALSE NEIGHBOUR: 'it returns false'. Refute it at one input. -/
def fnExactDateAddWrong : ChangeSpec := { name := "fnExactDateAdd", fn := fun _ => fun
  | [d1, d2] => { results := [.lit (.bool false)], args := [d1, d2] }
  | _ => none }
def FnExactDateAddWrongFalsely : Prop := fnExactDateAddRow.holds Try.pinned (OpenSpec.ofChange fnExactDateAddWrong)

/-- 'laws.FnExactDayOfYear': WHATEVER THE INPUT: true; the input reads as it did. -/
def fnExactDayOfYearSpec : ChangeSpec := { name := "fnExactDayOfYear", fn := fun _ => fun
  | [d] => { results := [.lit (.bool true)], args := [d] }
  | _ => none }
def fnExactDayOfYearRow : OpenClaim := { program := "ytcaemfnnkfbmgaa", sum := "500c9ff7e1adbc363b9067cec9d402e82c0e0b392e889773e2b81025ed30502b", func := "loop.example/sundials/laws.FnExactDayOfYear", spec := "fnExactDayOfYear", apart := false }
def FnExactDayOfYearSaid : Prop := fnExactDayOfYearRow.holds Try.pinned (OpenSpec.ofChange fnExactDayOfYearSpec)

/-- ITS FALSE NEIGHBOUR: 'it returns false'. Refute it at one input. -/
def fnExactDayOfYearWrong : ChangeSpec := { name := "fnExactDayOfYear", fn := fun _ => fun
  | [d] => { results := [.lit (.bool false)], args := [d] }
  | _ => none }
def FnExactDayOfYearWrongFalsely : Prop := fnExactDayOfYearRow.holds Try.pinned (OpenSpec.ofChange fnExactDayOfYearWrong)

/-- 'laws.FnExactWeekDay': WHATEVER THE INPUT: true; the input reads as it did. -/
def fnExactWeekDaySpec : ChangeSpec := { name := "fnExactWeekDay", fn := fun _ => fun
  | [d] => { results := [.lit (.bool true)], args := [d] }
  | _ => none }
def fnExactWeekDayRow : OpenClaim := { program := "ytcaemfnnkfbmgaa", sum := "500c9ff7e1adbc363b9067cec9d402e82c0e0b392e889773e2b81025ed30502b", func := "loop.example/sundials/laws.FnExactWeekDay", spec := "fnExactWeekDay", apart := false }
def FnExactWeekDaySaid : Prop := fnExactWeekDayRow.holds Try.pinned (OpenSpec.ofChange fnExactWeekDaySpec)

/-- ITS FALSE NEIGHBOUR: 'it returns false'. Refute it at one input. -/
def fnExactWeekDayWrong : ChangeSpec := { name := "fnExactWeekDay", fn := fun _ => fun
  | [d] => { results := [.lit (.bool false)], args := [d] }
  | _ => none }
def FnExactWeekDayWrongFalsely : Prop := fnExactWeekDayRow.holds Try.pinned (OpenSpec.ofChange fnExactWeekDayWrong)

/-- 'laws.FnExactWeekOf': WHATEVER THE INPUT: true; the input reads as it did. -/
def fnExactWeekOfSpec : ChangeSpec := { name := "fnExactWeekOf", fn := fun _ => fun
  | [d] => { results := [.lit (.bool true)], args := [d] }
  | _ => none }
def fnExactWeekOfRow : OpenClaim := { program := "ytcaemfnnkfbmgaa", sum := "500c9ff7e1adbc363b9067cec9d402e82c0e0b392e889773e2b81025ed30502b", func := "loop.example/sundials/laws.FnExactWeekOf", spec := "fnExactWeekOf", apart := false }
def FnExactWeekOfSaid : Prop := fnExactWeekOfRow.holds Try.pinned (OpenSpec.ofChange fnExactWeekOfSpec)

/-- ITS FALSE NEIGHBOUR: 'it returns false'. Refute it at one input. -/
def fnExactWeekOfWrong : ChangeSpec := { name := "fnExactWeekOf", fn := fun _ => fun
  | [d] => { results := [.lit (.bool false)], args := [d] }
  | _ => none }
def FnExactWeekOfWrongFalsely : Prop := fnExactWeekOfRow.holds Try.pinned (OpenSpec.ofChange fnExactWeekOfWrong)

/-- 'laws.FnExactWeeksOf': WHATEVER THE INPUT: true; the input reads as it did. -/
def fnExactWeeksOfSpec : ChangeSpec := { name := "fnExactWeeksOf", fn := fun _ => fun
  | [d] => { results := [.lit (.bool true)], args := [d] }
  | _ => none }
def fnExactWeeksOfRow : OpenClaim := { program := "ytcaemfnnkfbmgaa", sum := "500c9ff7e1adbc363b9067cec9d402e82c0e0b392e889773e2b81025ed30502b", func := "loop.example/sundials/laws.FnExactWeeksOf", spec := "fnExactWeeksOf", apart := false }
def FnExactWeeksOfSaid : Prop := fnExactWeeksOfRow.holds Try.pinned (OpenSpec.ofChange fnExactWeeksOfSpec)

/-- ITS FALSE NEIGHBOUR: 'it returns false'. Refute it at one input. -/
def fnExactWeeksOfWrong : ChangeSpec := { name := "fnExactWeeksOf", fn := fun _ => fun
  | [d] => { results := [.lit (.bool false)], args := [d] }
  | _ => none }
def FnExactWeeksOfWrongFalsely : Prop := fnExactWeeksOfRow.holds Try.pinned (OpenSpec.ofChange fnExactWeeksOfWrong)

/-- 'laws.FnExactWeekDate': WHATEVER THE INPUT: true; the input reads as it did. -/
def fnExactWeekDateSpec : ChangeSpec := { name := "fnExactWeekDate", fn := fun _ => fun
  | [d1, d2, d3] => { results := [.lit (.bool true)], args := [d1, d2, d3] }
  | _ => none }
def fnExactWeekDateRow : OpenClaim := { program := "ytcaemfnnkfbmgaa", sum := "500c9ff7e1adbc363b9067cec9d402e82c0e0b392e889773e2b81025ed30502b", func := "loop.example/sundials/laws.FnExactWeekDate", spec := "fnExactWeekDate", apart := false }
def FnExactWeekDateSaid : Prop := fnExactWeekDateRow.holds Try.pinned (OpenSpec.ofChange fnExactWeekDateSpec)

/-- ITS FALSE NEIGHBOUR: 'it returns false'. Refute it at one input. -/
def fnExactWeekDateWrong : ChangeSpec := { name := "fnExactWeekDate", fn := fun _ => fun
  | [d1, d2, d3] => { results := [.lit (.bool false)], args := [d1, d2, d3] }
  | _ => none }
def FnExactWeekDateWrongFalsely : Prop := fnExactWeekDateRow.holds Try.pinned (OpenSpec.ofChange fnExactWeekDateWrong)

/-- 'laws.FnExactOldValid': WHATEVER THE INPUT: true; the input reads as it did. -/
def fnExactOldValidSpec : ChangeSpec := { name := "fnExactOldValid", fn := fun _ => fun
  | [d] => { results := [.lit (.bool true)], args := [d] }
  | _ => none }
def fnExactOldValidRow : OpenClaim := { program := "ytcaemfnnkfbmgaa", sum := "500c9ff7e1adbc363b9067cec9d402e82c0e0b392e889773e2b81025ed30502b", func := "loop.example/sundials/laws.FnExactOldValid", spec := "fnExactOldValid", apart := false }
def FnExactOldValidSaid : Prop := fnExactOldValidRow.holds Try.pinned (OpenSpec.ofChange fnExactOldValidSpec)

/-- ITS FALSE NEIGHBOUR: 'it returns false'. Refute it at one input. -/
def fnExactOldValidWrong : ChangeSpec := { name := "fnExactOldValid", fn := fun _ => fun
  | [d] => { results := [.lit (.bool false)], args := [d] }
  | _ => none }
def FnExactOldValidWrongFalsely : Prop := fnExactOldValidRow.holds Try.pinned (OpenSpec.ofChange fnExactOldValidWrong)

/-- 'laws.FnExactOldNumber': WHATEVER THE INPUT: true; the input reads as it did. -/
def fnExactOldNumberSpec : ChangeSpec := { name := "fnExactOldNumber", fn := fun _ => fun
  | [d] => { results := [.lit (.bool true)], args := [d] }
  | _ => none }
def fnExactOldNumberRow : OpenClaim := { program := "ytcaemfnnkfbmgaa", sum := "500c9ff7e1adbc363b9067cec9d402e82c0e0b392e889773e2b81025ed30502b", func := "loop.example/sundials/laws.FnExactOldNumber", spec := "fnExactOldNumber", apart := false }
def FnExactOldNumberSaid : Prop := fnExactOldNumberRow.holds Try.pinned (OpenSpec.ofChange fnExactOldNumberSpec)

/-- ITS FALSE NEIGHBOUR: 'it returns false'. Refute it at one input. -/
def fnExactOldNumberWrong : ChangeSpec := { name := "fnExactOldNumber", fn := fun _ => fun
  | [d] => { results := [.lit (.bool false)], args := [d] }
  | _ => none }
def FnExactOldNumberWrongFalsely : Prop := fnExactOldNumberRow.holds Try.pinned (OpenSpec.ofChange fnExactOldNumberWrong)

/-- 'laws.FnExactOldOf': WHATEVER THE INPUT: true; the input reads as it did. -/
def fnExactOldOfSpec : ChangeSpec := { name := "fnExactOldOf", fn := fun _ => fun
  | [d] => { results := [.lit (.bool true)], args := [d] }
  | _ => none }
def fnExactOldOfRow : OpenClaim := { program := "ytcaemfnnkfbmgaa", sum := "500c9ff7e1adbc363b9067cec9d402e82c0e0b392e889773e2b81025ed30502b", func := "loop.example/sundials/laws.FnExactOldOf", spec := "fnExactOldOf", apart := false }
def FnExactOldOfSaid : Prop := fnExactOldOfRow.holds Try.pinned (OpenSpec.ofChange fnExactOldOfSpec)

/-- ITS FALSE NEIGHBOUR: 'it returns false'. Refute it at one input. -/
def fnExactOldOfWrong : ChangeSpec := { name := "fnExactOldOf", fn := fun _ => fun
  | [d] => { results := [.lit (.bool false)], args := [d] }
  | _ => none }
def FnExactOldOfWrongFalsely : Prop := fnExactOldOfRow.holds Try.pinned (OpenSpec.ofChange fnExactOldOfWrong)

/-- 'laws.FnExactEaster': WHATEVER THE INPUT: true; the input reads as it did. -/
def fnExactEasterSpec : ChangeSpec := { name := "fnExactEaster", fn := fun _ => fun
  | [d] => { results := [.lit (.bool true)], args := [d] }
  | _ => none }
def fnExactEasterRow : OpenClaim := { program := "ytcaemfnnkfbmgaa", sum := "500c9ff7e1adbc363b9067cec9d402e82c0e0b392e889773e2b81025ed30502b", func := "loop.example/sundials/laws.FnExactEaster", spec := "fnExactEaster", apart := false }
def FnExactEasterSaid : Prop := fnExactEasterRow.holds Try.pinned (OpenSpec.ofChange fnExactEasterSpec)

/-- ITS FALSE NEIGHBOUR: 'it returns false'. Refute it at one input. -/
def fnExactEasterWrong : ChangeSpec := { name := "fnExactEaster", fn := fun _ => fun
  | [d] => { results := [.lit (.bool false)], args := [d] }
  | _ => none }
def FnExactEasterWrongFalsely : Prop := fnExactEasterRow.holds Try.pinned (OpenSpec.ofChange fnExactEasterWrong)

/- THE SECOND FORM. 'bulk': how many values and letters a reading holds, each counted each time it is reached (what is shared counts as often as it is met; a slice's spare places count too). A statement '..UptoSaid' is the law's where the arguments, and the package variables that the reading takes, are together of bulk at most 1048576: NARROWER than '..Said'. Prove '..Said' where nothing that the law and all that it calls make is longer than what came in: it says more and counts as full. Else prove '..UptoSaid'. A law counts once. -/
mutual
def uptoBulk {H : Type} : DataW H → Nat
  | .lit (.string bytes) => bytes.length + 1
  | .lit _ => 1
  | .nil => 1
  | .ptr d => uptoBulk d + 1
  | .slice elems spare => uptoBulkAll elems + uptoBulkAll spare + 1
  | .agg parts => uptoBulkAll parts + 1
  | .iface _ d => uptoBulk d + 1
  | .map entries => uptoBulkEntries entries + 1
  | .held _ => 1
def uptoBulkAll {H : Type} : List (DataW H) → Nat
  | [] => 0
  | d :: r => uptoBulk d + uptoBulkAll r
def uptoBulkEntries {H : Type} : List (Lit × DataW H) → Nat
  | [] => 0
  | x :: r => uptoBulkEntry x + uptoBulkEntries r
def uptoBulkEntry {H : Type} : Lit × DataW H → Nat
  | (.string bytes, d) => bytes.length + uptoBulk d + 1
  | (_, d) => uptoBulk d + 1
 end
def uptoSmall : (H : Type) → List (DataW H) → Bool := fun _ ds => decide (uptoBulkAll ds ≤ 1048576)
def OpenSpec.upto (s : _root_.Go.ChangeSpec) : _root_.Go.OpenSpec := { _root_.Go.OpenSpec.ofChange s with cond := some uptoSmall }

/-- 'laws.FnExactLeapYear', WHERE WHAT IT READS IS OF BULK AT MOST 1048576: true; the input reads as it did. -/
def fnExactLeapYearUptoRow : OpenClaim := { program := "ytcaemfnnkfbmgaa", sum := "500c9ff7e1adbc363b9067cec9d402e82c0e0b392e889773e2b81025ed30502b", func := "loop.example/sundials/laws.FnExactLeapYear", spec := "fnExactLeapYear", apart := false, narrowed := true }
def FnExactLeapYearUptoSaid : Prop := fnExactLeapYearUptoRow.holds Try.pinned (OpenSpec.upto fnExactLeapYearSpec)

/-- 'laws.FnExactYearLong', WHERE WHAT IT READS IS OF BULK AT MOST 1048576: true; the input reads as it did. -/
def fnExactYearLongUptoRow : OpenClaim := { program := "ytcaemfnnkfbmgaa", sum := "500c9ff7e1adbc363b9067cec9d402e82c0e0b392e889773e2b81025ed30502b", func := "loop.example/sundials/laws.FnExactYearLong", spec := "fnExactYearLong", apart := false, narrowed := true }
def FnExactYearLongUptoSaid : Prop := fnExactYearLongUptoRow.holds Try.pinned (OpenSpec.upto fnExactYearLongSpec)

/-- 'laws.FnExactMonthLong', WHERE WHAT IT READS IS OF BULK AT MOST 1048576: true; the input reads as it did. -/
def fnExactMonthLongUptoRow : OpenClaim := { program := "ytcaemfnnkfbmgaa", sum := "500c9ff7e1adbc363b9067cec9d402e82c0e0b392e889773e2b81025ed30502b", func := "loop.example/sundials/laws.FnExactMonthLong", spec := "fnExactMonthLong", apart := false, narrowed := true }
def FnExactMonthLongUptoSaid : Prop := fnExactMonthLongUptoRow.holds Try.pinned (OpenSpec.upto fnExactMonthLongSpec)

/-- 'laws.FnExactDateValid', WHERE WHAT IT READS IS OF BULK AT MOST 1048576: true; the input reads as it did. -/
def fnExactDateValidUptoRow : OpenClaim := { program := "ytcaemfnnkfbmgaa", sum := "500c9ff7e1adbc363b9067cec9d402e82c0e0b392e889773e2b81025ed30502b", func := "loop.example/sundials/laws.FnExactDateValid", spec := "fnExactDateValid", apart := false, narrowed := true }
def FnExactDateValidUptoSaid : Prop := fnExactDateValidUptoRow.holds Try.pinned (OpenSpec.upto fnExactDateValidSpec)

/-- 'laws.FnExactDayNumber', WHERE WHAT IT READS IS OF BULK AT MOST 1048576: true; the input reads as it did. -/
def fnExactDayNumberUptoRow : OpenClaim := { program := "ytcaemfnnkfbmgaa", sum := "500c9ff7e1adbc363b9067cec9d402e82c0e0b392e889773e2b81025ed30502b", func := "loop.example/sundials/laws.FnExactDayNumber", spec := "fnExactDayNumber", apart := false, narrowed := true }
def FnExactDayNumberUptoSaid : Prop := fnExactDayNumberUptoRow.holds Try.pinned (OpenSpec.upto fnExactDayNumberSpec)

/-- 'laws.FnExactDateOf', WHERE WHAT IT READS IS OF BULK AT MOST 1048576: true; the input reads as it did. -/
def fnExactDateOfUptoRow : OpenClaim := { program := "ytcaemfnnkfbmgaa", sum := "500c9ff7e1adbc363b9067cec9d402e82c0e0b392e889773e2b81025ed30502b", func := "loop.example/sundials/laws.FnExactDateOf", spec := "fnExactDateOf", apart := false, narrowed := true }
def FnExactDateOfUptoSaid : Prop := fnExactDateOfUptoRow.holds Try.pinned (OpenSpec.upto fnExactDateOfSpec)

/-- 'laws.FnExactDateAdd', WHERE WHAT IT READS IS OF BULK AT MOST 1048576: true; the input reads as it did. -/
def fnExactDateAddUptoRow : OpenClaim := { program := "ytcaemfnnkfbmgaa", sum := "500c9ff7e1adbc363b9067cec9d402e82c0e0b392e889773e2b81025ed30502b", func := "loop.example/sundials/laws.FnExactDateAdd", spec := "fnExactDateAdd", apart := false, narrowed := true }
def FnExactDateAddUptoSaid : Prop := fnExactDateAddUptoRow.holds Try.pinned (OpenSpec.upto fnExactDateAddSpec)

/-- 'laws.FnExactDayOfYear', WHERE WHAT IT READS IS OF BULK AT MOST 1048576: true; the input reads as it did. -/
def fnExactDayOfYearUptoRow : OpenClaim := { program := "ytcaemfnnkfbmgaa", sum := "500c9ff7e1adbc363b9067cec9d402e82c0e0b392e889773e2b81025ed30502b", func := "loop.example/sundials/laws.FnExactDayOfYear", spec := "fnExactDayOfYear", apart := false, narrowed := true }
def FnExactDayOfYearUptoSaid : Prop := fnExactDayOfYearUptoRow.holds Try.pinned (OpenSpec.upto fnExactDayOfYearSpec)

/-- 'laws.FnExactWeekDay', WHERE WHAT IT READS IS OF BULK AT MOST 1048576: true; the input reads as it did. -/
def fnExactWeekDayUptoRow : OpenClaim := { program := "ytcaemfnnkfbmgaa", sum := "500c9ff7e1adbc363b9067cec9d402e82c0e0b392e889773e2b81025ed30502b", func := "loop.example/sundials/laws.FnExactWeekDay", spec := "fnExactWeekDay", apart := false, narrowed := true }
def FnExactWeekDayUptoSaid : Prop := fnExactWeekDayUptoRow.holds Try.pinned (OpenSpec.upto fnExactWeekDaySpec)

/-- 'laws.FnExactWeekOf', WHERE WHAT IT READS IS OF BULK AT MOST 1048576: true; the input reads as it did. -/
def fnExactWeekOfUptoRow : OpenClaim := { program := "ytcaemfnnkfbmgaa", sum := "500c9ff7e1adbc363b9067cec9d402e82c0e0b392e889773e2b81025ed30502b", func := "loop.example/sundials/laws.FnExactWeekOf", spec := "fnExactWeekOf", apart := false, narrowed := true }
def FnExactWeekOfUptoSaid : Prop := fnExactWeekOfUptoRow.holds Try.pinned (OpenSpec.upto fnExactWeekOfSpec)

/-- 'laws.FnExactWeeksOf', WHERE WHAT IT READS IS OF BULK AT MOST 1048576: true; the input reads as it did. -/
def fnExactWeeksOfUptoRow : OpenClaim := { program := "ytcaemfnnkfbmgaa", sum := "500c9ff7e1adbc363b9067cec9d402e82c0e0b392e889773e2b81025ed30502b", func := "loop.example/sundials/laws.FnExactWeeksOf", spec := "fnExactWeeksOf", apart := false, narrowed := true }
def FnExactWeeksOfUptoSaid : Prop := fnExactWeeksOfUptoRow.holds Try.pinned (OpenSpec.upto fnExactWeeksOfSpec)

/-- 'laws.FnExactWeekDate', WHERE WHAT IT READS IS OF BULK AT MOST 1048576: true; the input reads as it did. -/
def fnExactWeekDateUptoRow : OpenClaim := { program := "ytcaemfnnkfbmgaa", sum := "500c9ff7e1adbc363b9067cec9d402e82c0e0b392e889773e2b81025ed30502b", func := "loop.example/sundials/laws.FnExactWeekDate", spec := "fnExactWeekDate", apart := false, narrowed := true }
def FnExactWeekDateUptoSaid : Prop := fnExactWeekDateUptoRow.holds Try.pinned (OpenSpec.upto fnExactWeekDateSpec)

/-- 'laws.FnExactOldValid', WHERE WHAT IT READS IS OF BULK AT MOST 1048576: true; the input reads as it did. -/
def fnExactOldValidUptoRow : OpenClaim := { program := "ytcaemfnnkfbmgaa", sum := "500c9ff7e1adbc363b9067cec9d402e82c0e0b392e889773e2b81025ed30502b", func := "loop.example/sundials/laws.FnExactOldValid", spec := "fnExactOldValid", apart := false, narrowed := true }
def FnExactOldValidUptoSaid : Prop := fnExactOldValidUptoRow.holds Try.pinned (OpenSpec.upto fnExactOldValidSpec)

/-- 'laws.FnExactOldNumber', WHERE WHAT IT READS IS OF BULK AT MOST 1048576: true; the input reads as it did. -/
def fnExactOldNumberUptoRow : OpenClaim := { program := "ytcaemfnnkfbmgaa", sum := "500c9ff7e1adbc363b9067cec9d402e82c0e0b392e889773e2b81025ed30502b", func := "loop.example/sundials/laws.FnExactOldNumber", spec := "fnExactOldNumber", apart := false, narrowed := true }
def FnExactOldNumberUptoSaid : Prop := fnExactOldNumberUptoRow.holds Try.pinned (OpenSpec.upto fnExactOldNumberSpec)

/-- 'laws.FnExactOldOf', WHERE WHAT IT READS IS OF BULK AT MOST 1048576: true; the input reads as it did. -/
def fnExactOldOfUptoRow : OpenClaim := { program := "ytcaemfnnkfbmgaa", sum := "500c9ff7e1adbc363b9067cec9d402e82c0e0b392e889773e2b81025ed30502b", func := "loop.example/sundials/laws.FnExactOldOf", spec := "fnExactOldOf", apart := false, narrowed := true }
def FnExactOldOfUptoSaid : Prop := fnExactOldOfUptoRow.holds Try.pinned (OpenSpec.upto fnExactOldOfSpec)

/-- 'laws.FnExactEaster', WHERE WHAT IT READS IS OF BULK AT MOST 1048576: true; the input reads as it did. -/
def fnExactEasterUptoRow : OpenClaim := { program := "ytcaemfnnkfbmgaa", sum := "500c9ff7e1adbc363b9067cec9d402e82c0e0b392e889773e2b81025ed30502b", func := "loop.example/sundials/laws.FnExactEaster", spec := "fnExactEaster", apart := false, narrowed := true }
def FnExactEasterUptoSaid : Prop := fnExactEasterUptoRow.holds Try.pinned (OpenSpec.upto fnExactEasterSpec)

end Rows
end Go.Proofs.Ytcaemfnnkfbmgaa
