/- Two equal families in a bed. -/
import Derived.Test.YtoklehmoeollfaaNu
namespace Go.Proofs.Ytoklehmoeollfaa
set_option linter.unusedVariables false

theorem hit_at {rows : List (List Int)} {k j c : Nat} (hkj : k < j) (hk : k < rows.length) (hj : j < rows.length) (hc : c < rows[k].length) (hc2 : c < rows[j].length) (e : rows[k][c] = rows[j][c]) : HitR rows k j c :=
  ⟨hkj, hj, by rw [rwK_at hk]; exact hc, by rw [rwK_at hk, rwK_at hj]; simp only [List.getD, List.getElem?_eq_getElem hc, List.getElem?_eq_getElem hc2, Option.getD_some]; exact e⟩
end Go.Proofs.Ytoklehmoeollfaa
