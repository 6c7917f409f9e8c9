/- Calendars, in plain numbers: the newer calendar within the older one. -/
import Derived.Test.YthfehlmddlfcmaaCal4
namespace Go.Proofs.Ythfehlmddlfcmaa
theorem leap_four {y : Int} (h : leapB y = true) : (y % 4 == 0) = true := by rw [leapB_iff] at h; rw [beq_iff_eq]; exact h.2.2.1
theorem val_oval {y m d : Int} (v : valB y m d = true) : oval y m d = true := by
  obtain ⟨h1, h2, h3, h4, h5, h6⟩ := valB_in v
  refine oval_mk h1 h2 h5 (Int.le_trans h6 ?_)
  cases hl : leapB y
  · unfold dim; (repeat' split) <;> simp_all <;> omega
  · rw [leap_four hl]; exact Int.le_refl _
theorem oval_feb {y m d : Int} (v : oval y m d = true) (h : y % 4 = 0) : oval y 2 29 = true := by
  obtain ⟨h1, h2, _⟩ := oval_in v
  exact oval_mk h1 h2 (by omega) (by unfold dim; simp [h])
theorem oval_400 {y m d : Int} (v : oval y m d = true) (h : y + 400 ≤ 4000) : oval (y + 400) m d = true ∧ onum (y + 400) m d = onum y m d + 146100 := by
  obtain ⟨h1, h2, h3, h4, h5, h6⟩ := oval_in v
  have e : (y + 400) % 4 = y % 4 := by omega
  refine ⟨oval_mk (by omega) h h5 (by rw [e]; exact h6), ?_⟩
  unfold onum ody; rw [e]; omega
theorem num_onum {y m d : Int} (v : valB y m d = true) : num y m d ≤ onum y m d + 2 := by
  obtain ⟨h1, h2, h3, h4, h5, h6⟩ := valB_in v
  have hc : cum m (leapB y) ≤ cum m (y % 4 == 0) := by
    cases hl : leapB y
    · have hm : m = 1 ∨ m = 2 ∨ m = 3 ∨ m = 4 ∨ m = 5 ∨ m = 6 ∨ m = 7 ∨ m = 8 ∨ m = 9 ∨ m = 10 ∨ m = 11 ∨ m = 12 := by omega
      cases (y % 4 == 0) <;> rcases hm with rfl | rfl | rfl | rfl | rfl | rfl | rfl | rfl | rfl | rfl | rfl | rfl <;> decide
    · rw [leap_four hl]; exact Int.le_refl _
  have hy : dby y ≤ ody y := by unfold dby ody; omega
  unfold num onum; omega
end Go.Proofs.Ythfehlmddlfcmaa
