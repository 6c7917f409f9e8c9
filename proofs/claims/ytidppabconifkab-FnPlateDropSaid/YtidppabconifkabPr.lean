/- The model's PlateRead. -/
import Derived.Test.YtidppabconifkabPd
namespace Go.Proofs.Ytidppabconifkab
open Go Go.ChangeShapes Go.WideShapes Go.ChangeAt Go.RowKit
set_option linter.unusedSimpArgs false
set_option linter.unusedVariables false
set_option linter.unnecessarySimpa false

/-- The text of the last mark of the list that the way does not come before; o if there is none. -/
def passL (a b : Int) (o : ByteArray) (xs : List VMark) : ByteArray := xs.foldl (fun o v => if rlB a b v.1 v.2.1 = true then o else v.2.2) o
theorem passL_next {a b : Int} {o : ByteArray} {xs : List VMark} {k : Nat} (hk : k < xs.length) : passL a b o (xs.take (k + 1)) = if rlB a b xs[k].1 xs[k].2.1 = true then passL a b o (xs.take k) else xs[k].2.2 := by
  rw [List.take_succ_eq_append_getElem hk]; unfold passL; rw [List.foldl_append]; rfl
/-- What a plate tells of a shadow. -/
noncomputable def readT (xs : List VMark) (a b : Int) : ByteArray :=
  if plB xs = true ∧ goB a b = true ∧ 0 < xs.length then passL a b (mkAt xs (xs.length - 1)).2.2 xs else ByteArray.empty
end Go.Proofs.Ytidppabconifkab
