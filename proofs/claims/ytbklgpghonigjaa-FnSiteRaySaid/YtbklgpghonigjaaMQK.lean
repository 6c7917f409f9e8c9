/- QK: texts joined. -/
import Derived.Test.YtbklgpghonigjaaMQJ
import Derived.Test.YtbklgpghonigjaaMQG
import Derived.Test.YtbklgpghonigjaaMQE
namespace Go.Proofs.Ytbklgpghonigjaa
set_option linter.unusedVariables false
set_option linter.unusedSimpArgs false
theorem siB_iff {la dy mi e1 n1 fe fn fu ho ha ne lo hi st : Int} {xs : List VBlock} : siB la dy mi e1 n1 fe fn fu ho ha ne lo hi st xs = true ↔ (-90 ≤ la ∧ la ≤ 90) ∧ (1 ≤ dy ∧ dy ≤ 365) ∧ (0 ≤ mi ∧ mi ≤ 1425) ∧ mi.tmod 15 = 0 ∧ bsB xs = true ∧ plB e1 n1 = true ∧ fcB fe fn fu = true ∧ (0 ≤ ho ∧ ho ≤ 200) ∧ (0 ≤ ha ∧ ha ≤ ho) ∧ (0 ≤ ne ∧ ne ≤ 20) ∧ bdB lo hi = true ∧ (0 ≤ st ∧ st ≤ 20) := by
  unfold siB tvB svB inV
  simp only [Bool.and_eq_true, decide_eq_true_eq, and_assoc]
end Go.Proofs.Ytbklgpghonigjaa
