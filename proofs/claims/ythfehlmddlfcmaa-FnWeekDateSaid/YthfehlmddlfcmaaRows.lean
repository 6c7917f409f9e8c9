/-
  No cell of these rows narrows 'for every input' (looked for: loops, veiled, ifaces, maps, wideKeys, modest, calm, conditions, laid).
  DERIVED. THE GIVEN ROWS OF THIS SEAT. 16 by the template 'for every input the law returns true; each argument reads behind the call as it read before'; 0 by the template 'total and deterministic' (their statements: YthfehlmddlfcmaaTotals.lean).
  GIVEN WITH THE SEED: the statements are not yours to turn. If you find one false, say at which input.
  Laid BY PROGRAM, IN A SANDBOX (cutbox-rows.mjs): the forced cells as the released guide's own fill.sh prints them over the translation 40d13f59a1b7dcd7… (all of the seat's roots in one cut). By AI agents, Wed Nov 11 2026. No macro, syntax, notation, axiom, sorry.
-/
import Derived.Test.YthfehlmddlfcmaaChecked
import GoSem.Claim
import GoSem.ClaimJoined
import GoSem.ClaimMapViews
import Derived.JoinedTies
import Derived.KernelRfl
namespace Go.Proofs.Ythfehlmddlfcmaa
/- THE CELL 'sum', in the pinned program and in every row, IS THE sha256 OF THE DUMP (.gsa) THAT YthfehlmddlfcmaaProg.lean LOADS. Nothing in Lean hashes anything: it is a label: what it is worth is what the hold of that sum in a sandbox is worth. -/
noncomputable def Try.pinned : Pinned := { name := "ythfehlmddlfcmaa", sum := "40d13f59a1b7dcd7e86a270055855d527c6b53e26fe81d11c098d41f83b508cc", checked := Try.checked }
namespace Rows
def none {H : Type} : Left H := { results := [], args := [] }

/-- 'laws.FnLeapYear': WHATEVER THE INPUT: true; the input reads as it did. -/
def fnLeapYearSpec : ChangeSpec := { name := "fnLeapYear", fn := fun _ => fun
  | [d] => { results := [.lit (.bool true)], args := [d] }
  | _ => none }
def fnLeapYearRow : OpenClaim := { program := "ythfehlmddlfcmaa", sum := "40d13f59a1b7dcd7e86a270055855d527c6b53e26fe81d11c098d41f83b508cc", func := "loop.example/sundials/laws.FnLeapYear", spec := "fnLeapYear", apart := false }
def FnLeapYearSaid : Prop := fnLeapYearRow.holds Try.pinned (OpenSpec.ofChange fnLeapYearSpec)

/-- ITS FALSE NEIGHBOUR: 'it returns false'. Refute it at one input. -/
def fnLeapYearWrong : ChangeSpec := { name := "fnLeapYear", fn := fun _ => fun
  | [d] => { results := [.lit (.bool false)], args := [d] }
  | _ => none }
def FnLeapYearWrongFalsely : Prop := fnLeapYearRow.holds Try.pinned (OpenSpec.ofChange fnLeapYearWrong)

/-- 'laws.FnYearLong': WHATEVER THE INPUT: true; the input reads as it did. -/
def fnYearLongSpec : ChangeSpec := { name := "fnYearLong", fn := fun _ => fun
  | [d] => { results := [.lit (.bool true)], args := [d] }
  | _ => none }
def fnYearLongRow : OpenClaim := { program := "ythfehlmddlfcmaa", sum := "40d13f59a1b7dcd7e86a270055855d527c6b53e26fe81d11c098d41f83b508cc", func := "loop.example/sundials/laws.FnYearLong", spec := "fnYearLong", apart := false }
def FnYearLongSaid : Prop := fnYearLongRow.holds Try.pinned (OpenSpec.ofChange fnYearLongSpec)

/-- ITS FALSE NEIGHBOUR: 'it returns false'. Refute it at one input. -/
def fnYearLongWrong : ChangeSpec := { name := "fnYearLong", fn := fun _ => fun
  | [d] => { results := [.lit (.bool false)], args := [d] }
  | _ => none }
def FnYearLongWrongFalsely : Prop := fnYearLongRow.holds Try.pinned (OpenSpec.ofChange fnYearLongWrong)

/-- 'laws.FnMonthLong': WHATEVER THE INPUT: true; the input reads as it did. -/
def fnMonthLongSpec : ChangeSpec := { name := "fnMonthLong", fn := fun _ => fun
  | [d] => { results := [.lit (.bool true)], args := [d] }
  | _ => none }
def fnMonthLongRow : OpenClaim := { program := "ythfehlmddlfcmaa", sum := "40d13f59a1b7dcd7e86a270055855d527c6b53e26fe81d11c098d41f83b508cc", func := "loop.example/sundials/laws.FnMonthLong", spec := "fnMonthLong", apart := false }
def FnMonthLongSaid : Prop := fnMonthLongRow.holds Try.pinned (OpenSpec.ofChange fnMonthLongSpec)

/-- ITS FALSE NEIGHBOUR: 'it returns false'. Refute it at one input. -/
def fnMonthLongWrong : ChangeSpec := { name := "fnMonthLong", fn := fun _ => fun
  | [d] => { results := [.lit (.bool false)], args := [d] }
  | _ => none }
def FnMonthLongWrongFalsely : Prop := fnMonthLongRow.holds Try.pinned (OpenSpec.ofChange fnMonthLongWrong)

/-- 'laws.FnDateValid': WHATEVER THE INPUT: true; the input reads as it did. -/
def fnDateValidSpec : ChangeSpec := { name := "fnDateValid", fn := fun _ => fun
  | [d] => { results := [.lit (.bool true)], args := [d] }
  | _ => none }
def fnDateValidRow : OpenClaim := { program := "ythfehlmddlfcmaa", sum := "40d13f59a1b7dcd7e86a270055855d527c6b53e26fe81d11c098d41f83b508cc", func := "loop.example/sundials/laws.FnDateValid", spec := "fnDateValid", apart := false }
def FnDateValidSaid : Prop := fnDateValidRow.holds Try.pinned (OpenSpec.ofChange fnDateValidSpec)

/-- ITS FALSE NEIGHBOUR: 'it returns false'. Refute it at one input. -/
def fnDateValidWrong : ChangeSpec := { name := "fnDateValid", fn := fun _ => fun
  | [d] => { results := [.lit (.bool false)], args := [d] }
  | _ => none }
def FnDateValidWrongFalsely : Prop := fnDateValidRow.holds Try.pinned (OpenSpec.ofChange fnDateValidWrong)

/-- 'laws.FnDayNumber': WHATEVER THE INPUT: true; the input reads as it did. -/
def fnDayNumberSpec : ChangeSpec := { name := "fnDayNumber", fn := fun _ => fun
  | [d] => { results := [.lit (.bool true)], args := [d] }
  | _ => none }
def fnDayNumberRow : OpenClaim := { program := "ythfehlmddlfcmaa", sum := "40d13f59a1b7dcd7e86a270055855d527c6b53e26fe81d11c098d41f83b508cc", func := "loop.example/sundials/laws.FnDayNumber", spec := "fnDayNumber", apart := false }
def FnDayNumberSaid : Prop := fnDayNumberRow.holds Try.pinned (OpenSpec.ofChange fnDayNumberSpec)

/-- ITS FALSE NEIGHBOUR: 'it returns false'. Refute it at one input. -/
def fnDayNumberWrong : ChangeSpec := { name := "fnDayNumber", fn := fun _ => fun
  | [d] => { results := [.lit (.bool false)], args := [d] }
  | _ => none }
def FnDayNumberWrongFalsely : Prop := fnDayNumberRow.holds Try.pinned (OpenSpec.ofChange fnDayNumberWrong)

/-- 'laws.FnDateOf': WHATEVER THE INPUT: true; the input reads as it did. -/
def fnDateOfSpec : ChangeSpec := { name := "fnDateOf", fn := fun _ => fun
  | [d] => { results := [.lit (.bool true)], args := [d] }
  | _ => none }
def fnDateOfRow : OpenClaim := { program := "ythfehlmddlfcmaa", sum := "40d13f59a1b7dcd7e86a270055855d527c6b53e26fe81d11c098d41f83b508cc", func := "loop.example/sundials/laws.FnDateOf", spec := "fnDateOf", apart := false }
def FnDateOfSaid : Prop := fnDateOfRow.holds Try.pinned (OpenSpec.ofChange fnDateOfSpec)

/-- ITS FALSE NEIGHBOUR: 'it returns false'. Refute it at one input. -/
def fnDateOfWrong : ChangeSpec := { name := "fnDateOf", fn := fun _ => fun
  | [d] => { results := [.lit (.bool false)], args := [d] }
  | _ => none }
def FnDateOfWrongFalsely : Prop := fnDateOfRow.holds Try.pinned (OpenSpec.ofChange fnDateOfWrong)

/-- 'laws.FnDateAdd': WHATEVER THE INPUT: true; the input reads as it did. -/
def fnDateAddSpec : ChangeSpec := { name := "fnDateAdd", fn := fun _ => fun
  | [d] => { results := [.lit (.bool true)], args := [d] }
  | _ => none }
def fnDateAddRow : OpenClaim := { program := "ythfehlmddlfcmaa", sum := "40d13f59a1b7dcd7e86a270055855d527c6b53e26fe81d11c098d41f83b508cc", func := "loop.example/sundials/laws.FnDateAdd", spec := "fnDateAdd", apart := false }
def FnDateAddSaid : Prop := fnDateAddRow.holds Try.pinned (OpenSpec.ofChange fnDateAddSpec)

/-- ITS FALSE NEIGHBOUR: 'it returns false'. Refute it at one input. -/
def fnDateAddWrong : ChangeSpec := { name := "fnDateAdd", fn := fun _ => fun
  | [d] => { results := [.lit (.bool false)], args := [d] }
  | _ => none }
def FnDateAddWrongFalsely : Prop := fnDateAddRow.holds Try.pinned (OpenSpec.ofChange fnDateAddWrong)

/-- 'laws.FnDayOfYear': WHATEVER THE INPUT: true; the input reads as it did. -/
def fnDayOfYearSpec : ChangeSpec := { name := "fnDayOfYear", fn := fun _ => fun
  | [d] => { results := [.lit (.bool true)], args := [d] }
  | _ => none }
def fnDayOfYearRow : OpenClaim := { program := "ythfehlmddlfcmaa", sum := "40d13f59a1b7dcd7e86a270055855d527c6b53e26fe81d11c098d41f83b508cc", func := "loop.example/sundials/laws.FnDayOfYear", spec := "fnDayOfYear", apart := false }
def FnDayOfYearSaid : Prop := fnDayOfYearRow.holds Try.pinned (OpenSpec.ofChange fnDayOfYearSpec)

/-- ITS FALSE NEIGHBOUR: 'it returns false'. Refute it at one input. -/
def fnDayOfYearWrong : ChangeSpec := { name := "fnDayOfYear", fn := fun _ => fun
  | [d] => { results := [.lit (.bool false)], args := [d] }
  | _ => none }
def FnDayOfYearWrongFalsely : Prop := fnDayOfYearRow.holds Try.pinned (OpenSpec.ofChange fnDayOfYearWrong)

/-- 'laws.FnWeekDay': WHATEVER THE INPUT: true; the input reads as it did. -/
def fnWeekDaySpec : ChangeSpec := { name := "fnWeekDay", fn := fun _ => fun
  | [d] => { results := [.lit (.bool true)], args := [d] }
  | _ => none }
def fnWeekDayRow : OpenClaim := { program := "ythfehlmddlfcmaa", sum := "40d13f59a1b7dcd7e86a270055855d527c6b53e26fe81d11c098d41f83b508cc", func := "loop.example/sundials/laws.FnWeekDay", spec := "fnWeekDay", apart := false }
def FnWeekDaySaid : Prop := fnWeekDayRow.holds Try.pinned (OpenSpec.ofChange fnWeekDaySpec)

/-- ITS FALSE NEIGHBOUR: 'it returns false'. Refute it at one input. -/
def fnWeekDayWrong : ChangeSpec := { name := "fnWeekDay", fn := fun _ => fun
  | [d] => { results := [.lit (.bool false)], args := [d] }
  | _ => none }
def FnWeekDayWrongFalsely : Prop := fnWeekDayRow.holds Try.pinned (OpenSpec.ofChange fnWeekDayWrong)

/-- 'laws.FnWeekOf': WHATEVER THE INPUT: true; the input reads as it did. -/
def fnWeekOfSpec : ChangeSpec := { name := "fnWeekOf", fn := fun _ => fun
  | [d] => { results := [.lit (.bool true)], args := [d] }
  | _ => none }
def fnWeekOfRow : OpenClaim := { program := "ythfehlmddlfcmaa", sum := "40d13f59a1b7dcd7e86a270055855d527c6b53e26fe81d11c098d41f83b508cc", func := "loop.example/sundials/laws.FnWeekOf", spec := "fnWeekOf", apart := false }
def FnWeekOfSaid : Prop := fnWeekOfRow.holds Try.pinned (OpenSpec.ofChange fnWeekOfSpec)

/-- ITS FALSE NEIGHBOUR: 'it returns false'. Refute it at one input. -/
def fnWeekOfWrong : ChangeSpec := { name := "fnWeekOf", fn := fun _ => fun
  | [d] => { results := [.lit (.bool false)], args := [d] }
  | _ => none }
def FnWeekOfWrongFalsely : Prop := fnWeekOfRow.holds Try.pinned (OpenSpec.ofChange fnWeekOfWrong)

/-- 'laws.FnWeeksOf': WHATEVER THE INPUT: true; the input reads as it did. -/
def fnWeeksOfSpec : ChangeSpec := { name := "fnWeeksOf", fn := fun _ => fun
  | [d] => { results := [.lit (.bool true)], args := [d] }
  | _ => none }
def fnWeeksOfRow : OpenClaim := { program := "ythfehlmddlfcmaa", sum := "40d13f59a1b7dcd7e86a270055855d527c6b53e26fe81d11c098d41f83b508cc", func := "loop.example/sundials/laws.FnWeeksOf", spec := "fnWeeksOf", apart := false }
def FnWeeksOfSaid : Prop := fnWeeksOfRow.holds Try.pinned (OpenSpec.ofChange fnWeeksOfSpec)

/-- ITS FALSE NEIGHBOUR: 'it returns false'. Refute it at one input. -/
def fnWeeksOfWrong : ChangeSpec := { name := "fnWeeksOf", fn := fun _ => fun
  | [d] => { results := [.lit (.bool false)], args := [d] }
  | _ => none }
def FnWeeksOfWrongFalsely : Prop := fnWeeksOfRow.holds Try.pinned (OpenSpec.ofChange fnWeeksOfWrong)

/-- 'laws.FnWeekDate': WHATEVER THE INPUT: true; the input reads as it did. -/
def fnWeekDateSpec : ChangeSpec := { name := "fnWeekDate", fn := fun _ => fun
  | [d] => { results := [.lit (.bool true)], args := [d] }
  | _ => none }
def fnWeekDateRow : OpenClaim := { program := "ythfehlmddlfcmaa", sum := "40d13f59a1b7dcd7e86a270055855d527c6b53e26fe81d11c098d41f83b508cc", func := "loop.example/sundials/laws.FnWeekDate", spec := "fnWeekDate", apart := false }
def FnWeekDateSaid : Prop := fnWeekDateRow.holds Try.pinned (OpenSpec.ofChange fnWeekDateSpec)

/-- ITS FALSE NEIGHBOUR: 'it returns false'. Refute it at one input. -/
def fnWeekDateWrong : ChangeSpec := { name := "fnWeekDate", fn := fun _ => fun
  | [d] => { results := [.lit (.bool false)], args := [d] }
  | _ => none }
def FnWeekDateWrongFalsely : Prop := fnWeekDateRow.holds Try.pinned (OpenSpec.ofChange fnWeekDateWrong)

/-- 'laws.FnOldValid': WHATEVER THE INPUT: true; the input reads as it did. -/
def fnOldValidSpec : ChangeSpec := { name := "fnOldValid", fn := fun _ => fun
  | [d] => { results := [.lit (.bool true)], args := [d] }
  | _ => none }
def fnOldValidRow : OpenClaim := { program := "ythfehlmddlfcmaa", sum := "40d13f59a1b7dcd7e86a270055855d527c6b53e26fe81d11c098d41f83b508cc", func := "loop.example/sundials/laws.FnOldValid", spec := "fnOldValid", apart := false }
def FnOldValidSaid : Prop := fnOldValidRow.holds Try.pinned (OpenSpec.ofChange fnOldValidSpec)

/-- ITS FALSE NEIGHBOUR: 'it returns false'. Refute it at one input. -/
def fnOldValidWrong : ChangeSpec := { name := "fnOldValid", fn := fun _ => fun
  | [d] => { results := [.lit (.bool false)], args := [d] }
  | _ => none }
def FnOldValidWrongFalsely : Prop := fnOldValidRow.holds Try.pinned (OpenSpec.ofChange fnOldValidWrong)

/-- 'laws.FnOldNumber': WHATEVER THE INPUT: true; the input reads as it did. -/
def fnOldNumberSpec : ChangeSpec := { name := "fnOldNumber", fn := fun _ => fun
  | [d] => { results := [.lit (.bool true)], args := [d] }
  | _ => none }
def fnOldNumberRow : OpenClaim := { program := "ythfehlmddlfcmaa", sum := "40d13f59a1b7dcd7e86a270055855d527c6b53e26fe81d11c098d41f83b508cc", func := "loop.example/sundials/laws.FnOldNumber", spec := "fnOldNumber", apart := false }
def FnOldNumberSaid : Prop := fnOldNumberRow.holds Try.pinned (OpenSpec.ofChange fnOldNumberSpec)

/-- ITS FALSE NEIGHBOUR: 'it returns false'. Refute it at one input. -/
def fnOldNumberWrong : ChangeSpec := { name := "fnOldNumber", fn := fun _ => fun
  | [d] => { results := [.lit (.bool false)], args := [d] }
  | _ => none }
def FnOldNumberWrongFalsely : Prop := fnOldNumberRow.holds Try.pinned (OpenSpec.ofChange fnOldNumberWrong)

/-- 'laws.FnOldOf': WHATEVER THE INPUT: true; the input reads as it did. -/
def fnOldOfSpec : ChangeSpec := { name := "fnOldOf", fn := fun _ => fun
  | [d] => { results := [.lit (.bool true)], args := [d] }
  | _ => none }
def fnOldOfRow : OpenClaim := { program := "ythfehlmddlfcmaa", sum := "40d13f59a1b7dcd7e86a270055855d527c6b53e26fe81d11c098d41f83b508cc", func := "loop.example/sundials/laws.FnOldOf", spec := "fnOldOf", apart := false }
def FnOldOfSaid : Prop := fnOldOfRow.holds Try.pinned (OpenSpec.ofChange fnOldOfSpec)

/-- ITS FALSE NEIGHBOUR: 'it returns false'. Refute it at one input. -/
def fnOldOfWrong : ChangeSpec := { name := "fnOldOf", fn := fun _ => fun
  | [d] => { results := [.lit (.bool false)], args := [d] }
  | _ => none }
def FnOldOfWrongFalsely : Prop := fnOldOfRow.holds Try.pinned (OpenSpec.ofChange fnOldOfWrong)

/-- 'laws.FnEaster': WHATEVER THE INPUT: true; the input reads as it did. -/
def fnEasterSpec : ChangeSpec := { name := "fnEaster", fn := fun _ => fun
  | [d] => { results := [.lit (.bool true)], args := [d] }
  | _ => none }
def fnEasterRow : OpenClaim := { program := "ythfehlmddlfcmaa", sum := "40d13f59a1b7dcd7e86a270055855d527c6b53e26fe81d11c098d41f83b508cc", func := "loop.example/sundials/laws.FnEaster", spec := "fnEaster", apart := false }
def FnEasterSaid : Prop := fnEasterRow.holds Try.pinned (OpenSpec.ofChange fnEasterSpec)

/-- ITS FALSE NEIGHBOUR: 'it returns false'. Refute it at one input. -/
def fnEasterWrong : ChangeSpec := { name := "fnEaster", fn := fun _ => fun
  | [d] => { results := [.lit (.bool false)], args := [d] }
  | _ => none }
def FnEasterWrongFalsely : Prop := fnEasterRow.holds Try.pinned (OpenSpec.ofChange fnEasterWrong)

/- THE SECOND FORM. 'bulk': how many values and letters a reading holds, each counted each time it is reached (what is shared counts as often as it is met; a slice's spare places count too). A statement '..UptoSaid' is the law's where the arguments, and the package variables that the reading takes, are together of bulk at most 1048576: NARROWER than '..Said'. Prove '..Said' where nothing that the law and all that it calls make is longer than what came in: it says more and counts as full. Else prove '..UptoSaid'. A law counts once. -/
mutual
def uptoBulk {H : Type} : DataW H → Nat
  | .lit (.string bytes) => bytes.length + 1
  | .lit _ => 1
  | .nil => 1
  | .ptr d => uptoBulk d + 1
  | .slice elems spare => uptoBulkAll elems + uptoBulkAll spare + 1
  | .agg parts => uptoBulkAll parts + 1
  | .iface _ d => uptoBulk d + 1
  | .map entries => uptoBulkEntries entries + 1
  | .held _ => 1
def uptoBulkAll {H : Type} : List (DataW H) → Nat
  | [] => 0
  | d :: r => uptoBulk d + uptoBulkAll r
def uptoBulkEntries {H : Type} : List (Lit × DataW H) → Nat
  | [] => 0
  | x :: r => uptoBulkEntry x + uptoBulkEntries r
def uptoBulkEntry {H : Type} : Lit × DataW H → Nat
  | (.string bytes, d) => bytes.length + uptoBulk d + 1
  | (_, d) => uptoBulk d + 1
 end
def uptoSmall : (H : Type) → List (DataW H) → Bool := fun _ ds => decide (uptoBulkAll ds ≤ 1048576)
def OpenSpec.upto (s : _root_.Go.ChangeSpec) : _root_.Go.OpenSpec := { _root_.Go.OpenSpec.ofChange s with cond := some uptoSmall }

/-- 'laws.FnLeapYear', WHERE WHAT IT READS IS OF BULK AT MOST 1048576: true; the input reads as it did. -/
def fnLeapYearUptoRow : OpenClaim := { program := "ythfehlmddlfcmaa", sum := "40d13f59a1b7dcd7e86a270055855d527c6b53e26fe81d11c098d41f83b508cc", func := "loop.example/sundials/laws.FnLeapYear", spec := "fnLeapYear", apart := false, narrowed := true }
def FnLeapYearUptoSaid : Prop := fnLeapYearUptoRow.holds Try.pinned (OpenSpec.upto fnLeapYearSpec)

/-- 'laws.FnYearLong', WHERE WHAT IT READS IS OF BULK AT MOST 1048576: true; the input reads as it did. -/
def fnYearLongUptoRow : OpenClaim := { program := "ythfehlmddlfcmaa", sum := "40d13f59a1b7dcd7e86a270055855d527c6b53e26fe81d11c098d41f83b508cc", func := "loop.example/sundials/laws.FnYearLong", spec := "fnYearLong", apart := false, narrowed := true }
def FnYearLongUptoSaid : Prop := fnYearLongUptoRow.holds Try.pinned (OpenSpec.upto fnYearLongSpec)

/-- 'laws.FnMonthLong', WHERE WHAT IT READS IS OF BULK AT MOST 1048576: true; the input reads as it did. -/
def fnMonthLongUptoRow : OpenClaim := { program := "ythfehlmddlfcmaa", sum := "40d13f59a1b7dcd7e86a270055855d527c6b53e26fe81d11c098d41f83b508cc", func := "loop.example/sundials/laws.FnMonthLong", spec := "fnMonthLong", apart := false, narrowed := true }
def FnMonthLongUptoSaid : Prop := fnMonthLongUptoRow.holds Try.pinned (OpenSpec.upto fnMonthLongSpec)

/-- 'laws.FnDateValid', WHERE WHAT IT READS IS OF BULK AT MOST 1048576: true; the input reads as it did. -/
def fnDateValidUptoRow : OpenClaim := { program := "ythfehlmddlfcmaa", sum := "40d13f59a1b7dcd7e86a270055855d527c6b53e26fe81d11c098d41f83b508cc", func := "loop.example/sundials/laws.FnDateValid", spec := "fnDateValid", apart := false, narrowed := true }
def FnDateValidUptoSaid : Prop := fnDateValidUptoRow.holds Try.pinned (OpenSpec.upto fnDateValidSpec)

/-- 'laws.FnDayNumber', WHERE WHAT IT READS IS OF BULK AT MOST 1048576: true; the input reads as it did. -/
def fnDayNumberUptoRow : OpenClaim := { program := "ythfehlmddlfcmaa", sum := "40d13f59a1b7dcd7e86a270055855d527c6b53e26fe81d11c098d41f83b508cc", func := "loop.example/sundials/laws.FnDayNumber", spec := "fnDayNumber", apart := false, narrowed := true }
def FnDayNumberUptoSaid : Prop := fnDayNumberUptoRow.holds Try.pinned (OpenSpec.upto fnDayNumberSpec)

/-- 'laws.FnDateOf', WHERE WHAT IT READS IS OF BULK AT MOST 1048576: true; the input reads as it did. -/
def fnDateOfUptoRow : OpenClaim := { program := "ythfehlmddlfcmaa", sum := "40d13f59a1b7dcd7e86a270055855d527c6b53e26fe81d11c098d41f83b508cc", func := "loop.example/sundials/laws.FnDateOf", spec := "fnDateOf", apart := false, narrowed := true }
def FnDateOfUptoSaid : Prop := fnDateOfUptoRow.holds Try.pinned (OpenSpec.upto fnDateOfSpec)

/-- 'laws.FnDateAdd', WHERE WHAT IT READS IS OF BULK AT MOST 1048576: true; the input reads as it did. -/
def fnDateAddUptoRow : OpenClaim := { program := "ythfehlmddlfcmaa", sum := "40d13f59a1b7dcd7e86a270055855d527c6b53e26fe81d11c098d41f83b508cc", func := "loop.example/sundials/laws.FnDateAdd", spec := "fnDateAdd", apart := false, narrowed := true }
def FnDateAddUptoSaid : Prop := fnDateAddUptoRow.holds Try.pinned (OpenSpec.upto fnDateAddSpec)

/-- 'laws.FnDayOfYear', WHERE WHAT IT READS IS OF BULK AT MOST 1048576: true; the input reads as it did. -/
def fnDayOfYearUptoRow : OpenClaim := { program := "ythfehlmddlfcmaa", sum := "40d13f59a1b7dcd7e86a270055855d527c6b53e26fe81d11c098d41f83b508cc", func := "loop.example/sundials/laws.FnDayOfYear", spec := "fnDayOfYear", apart := false, narrowed := true }
def FnDayOfYearUptoSaid : Prop := fnDayOfYearUptoRow.holds Try.pinned (OpenSpec.upto fnDayOfYearSpec)

/-- 'laws.FnWeekDay', WHERE WHAT IT READS IS OF BULK AT MOST 1048576: true; the input reads as it did. -/
def fnWeekDayUptoRow : OpenClaim := { program := "ythfehlmddlfcmaa", sum := "40d13f59a1b7dcd7e86a270055855d527c6b53e26fe81d11c098d41f83b508cc", func := "loop.example/sundials/laws.FnWeekDay", spec := "fnWeekDay", apart := false, narrowed := true }
def FnWeekDayUptoSaid : Prop := fnWeekDayUptoRow.holds Try.pinned (OpenSpec.upto fnWeekDaySpec)

/-- 'laws.FnWeekOf', WHERE WHAT IT READS IS OF BULK AT MOST 1048576: true; the input reads as it did. -/
def fnWeekOfUptoRow : OpenClaim := { program := "ythfehlmddlfcmaa", sum := "40d13f59a1b7dcd7e86a270055855d527c6b53e26fe81d11c098d41f83b508cc", func := "loop.example/sundials/laws.FnWeekOf", spec := "fnWeekOf", apart := false, narrowed := true }
def FnWeekOfUptoSaid : Prop := fnWeekOfUptoRow.holds Try.pinned (OpenSpec.upto fnWeekOfSpec)

/-- 'laws.FnWeeksOf', WHERE WHAT IT READS IS OF BULK AT MOST 1048576: true; the input reads as it did. -/
def fnWeeksOfUptoRow : OpenClaim := { program := "ythfehlmddlfcmaa", sum := "40d13f59a1b7dcd7e86a270055855d527c6b53e26fe81d11c098d41f83b508cc", func := "loop.example/sundials/laws.FnWeeksOf", spec := "fnWeeksOf", apart := false, narrowed := true }
def FnWeeksOfUptoSaid : Prop := fnWeeksOfUptoRow.holds Try.pinned (OpenSpec.upto fnWeeksOfSpec)

/-- 'laws.FnWeekDate', WHERE WHAT IT READS IS OF BULK AT MOST 1048576: true; the input reads as it did. -/
def fnWeekDateUptoRow : OpenClaim := { program := "ythfehlmddlfcmaa", sum := "40d13f59a1b7dcd7e86a270055855d527c6b53e26fe81d11c098d41f83b508cc", func := "loop.example/sundials/laws.FnWeekDate", spec := "fnWeekDate", apart := false, narrowed := true }
def FnWeekDateUptoSaid : Prop := fnWeekDateUptoRow.holds Try.pinned (OpenSpec.upto fnWeekDateSpec)

/-- 'laws.FnOldValid', WHERE WHAT IT READS IS OF BULK AT MOST 1048576: true; the input reads as it did. -/
def fnOldValidUptoRow : OpenClaim := { program := "ythfehlmddlfcmaa", sum := "40d13f59a1b7dcd7e86a270055855d527c6b53e26fe81d11c098d41f83b508cc", func := "loop.example/sundials/laws.FnOldValid", spec := "fnOldValid", apart := false, narrowed := true }
def FnOldValidUptoSaid : Prop := fnOldValidUptoRow.holds Try.pinned (OpenSpec.upto fnOldValidSpec)

/-- 'laws.FnOldNumber', WHERE WHAT IT READS IS OF BULK AT MOST 1048576: true; the input reads as it did. -/
def fnOldNumberUptoRow : OpenClaim := { program := "ythfehlmddlfcmaa", sum := "40d13f59a1b7dcd7e86a270055855d527c6b53e26fe81d11c098d41f83b508cc", func := "loop.example/sundials/laws.FnOldNumber", spec := "fnOldNumber", apart := false, narrowed := true }
def FnOldNumberUptoSaid : Prop := fnOldNumberUptoRow.holds Try.pinned (OpenSpec.upto fnOldNumberSpec)

/-- 'laws.FnOldOf', WHERE WHAT IT READS IS OF BULK AT MOST 1048576: true; the input reads as it did. -/
def fnOldOfUptoRow : OpenClaim := { program := "ythfehlmddlfcmaa", sum := "40d13f59a1b7dcd7e86a270055855d527c6b53e26fe81d11c098d41f83b508cc", func := "loop.example/sundials/laws.FnOldOf", spec := "fnOldOf", apart := false, narrowed := true }
def FnOldOfUptoSaid : Prop := fnOldOfUptoRow.holds Try.pinned (OpenSpec.upto fnOldOfSpec)

/-- 'laws.FnEaster', WHERE WHAT IT READS IS OF BULK AT MOST 1048576: true; the input reads as it did. -/
def fnEasterUptoRow : OpenClaim := { program := "ythfehlmddlfcmaa", sum := "40d13f59a1b7dcd7e86a270055855d527c6b53e26fe81d11c098d41f83b508cc", func := "loop.example/sundials/laws.FnEaster", spec := "fnEaster", apart := false, narrowed := true }
def FnEasterUptoSaid : Prop := fnEasterUptoRow.holds Try.pinned (OpenSpec.upto fnEasterSpec)

end Rows
end Go.Proofs.Ythfehlmddlfcmaa
