/- Em: texts joined. -/
import Derived.Test.YtbklgpghonigjaaMQK
namespace Go.Proofs.Ytbklgpghonigjaa
set_option linter.unusedVariables false
set_option linter.unusedSimpArgs false
/-- The direction to the sun is valid by day. -/
theorem ry_valid {la dy mi : Int} (h : ryO la dy mi = true) : ryB (ryE la dy mi) (ryN la dy mi) (ryU la dy mi) = true := by
  simp only [ryO, decide_eq_true_eq] at h
  have a := raI_bd (n := eastI (tiltI dy) (haI mi)) (least := -20) (by omega) (by omega)
  have b := raI_bd (n := northI la (tiltI dy) (haI mi)) (least := -20) (by omega) (by omega)
  have c := raI_bd (n := suI la dy mi) (least := 1) (by omega) (by omega)
  simp only [ryE, ryN, ryU, h, if_true, reI, rnI, ruI, ryB, inV, Bool.and_eq_true, decide_eq_true_eq]
  omega
end Go.Proofs.Ytbklgpghonigjaa
