/- The older calendar, in plain numbers. -/
import Derived.Test.YthfehlmddlfcmaaCal2
namespace Go.Proofs.Ythfehlmddlfcmaa
def oval (y m d : Int) : Bool := decide (1 ≤ y ∧ y ≤ 4000) && decide (1 ≤ d ∧ d ≤ dim m (y % 4 == 0))
theorem oval_in {y m d : Int} (h : oval y m d = true) : 1 ≤ y ∧ y ≤ 4000 ∧ 1 ≤ m ∧ m ≤ 12 ∧ 1 ≤ d ∧ d ≤ dim m (y % 4 == 0) := by
  simp only [oval, Bool.and_eq_true, decide_eq_true_eq] at h
  by_cases hm : 1 ≤ m ∧ m ≤ 12
  · omega
  · rw [dim_out _ _ hm] at h; omega
theorem oval_mk {y m d : Int} (h1 : 1 ≤ y) (h2 : y ≤ 4000) (h3 : 1 ≤ d) (h4 : d ≤ dim m (y % 4 == 0)) : oval y m d = true := by
  simp only [oval, Bool.and_eq_true, decide_eq_true_eq]; exact ⟨⟨h1, h2⟩, h3, h4⟩
def ody (y : Int) : Int := (y - 1) * 365 + (y - 1) / 4
def onum (y m d : Int) : Int := ody y + cum m (y % 4 == 0) + d - 3
theorem ody_succ (y : Int) : ody (y + 1) = ody y + 365 + (if (y % 4 == 0) = true then 1 else 0) := by
  unfold ody
  by_cases h : y % 4 = 0
  · rw [if_pos (by simpa using h)]; omega
  · rw [if_neg (by simpa using h)]; omega
theorem ody_bd (y : Int) (h1 : 0 ≤ y) (h2 : y ≤ 4002) : -366 ≤ ody y ∧ ody y ≤ 1461900 := by unfold ody; omega
theorem onum_in {y m d : Int} (h : oval y m d = true) : ody y ≤ onum y m d + 2 ∧ onum y m d + 2 < ody (y + 1) := by
  obtain ⟨h1, h2, h3, h4, h5, h6⟩ := oval_in h
  have hs := ody_succ y
  have hm := cum_mono m 13 (y % 4 == 0) h3 (by omega) (by omega)
  have hc := cum_bd m (y % 4 == 0) h3 h4
  rw [cum_13] at hm
  unfold onum
  omega
theorem onum_bd {y m d : Int} (h : oval y m d = true) : -2 ≤ onum y m d ∧ onum y m d ≤ 1460997 := by
  have h0 := onum_in h
  obtain ⟨h1, h2, _⟩ := oval_in h
  have a : ody 1 ≤ ody y := by unfold ody; omega
  have b : ody (y + 1) ≤ ody 4001 := by unfold ody; omega
  have : ody 1 = 0 := by decide
  have : ody 4001 = 1461000 := by decide
  omega
theorem oyear_unique {y z n : Int} (h1 : ody y ≤ n) (h2 : n < ody (y + 1)) (h3 : ody z ≤ n) (h4 : n < ody (z + 1)) : y = z := by
  by_cases c : y < z
  · have : ody (y + 1) ≤ ody z := by unfold ody; omega
    omega
  · by_cases c' : z < y
    · have : ody (z + 1) ≤ ody y := by unfold ody; omega
      omega
    · omega
theorem onum_inj {y m d y' m' d' : Int} (h : oval y m d = true) (h' : oval y' m' d' = true) (e : onum y m d = onum y' m' d') : y = y' ∧ m = m' ∧ d = d' := by
  have a := onum_in h
  have a' := onum_in h'
  obtain ⟨h1, h2, h3, h4, h5, h6⟩ := oval_in h
  obtain ⟨h1', h2', h3', h4', h5', h6'⟩ := oval_in h'
  rw [← e] at a'
  obtain rfl := oyear_unique a.1 a.2 a'.1 a'.2
  unfold onum at e
  have hm : m = m' := by
    by_cases c : m < m'
    · have := cum_mono m m' (y % 4 == 0) h3 c (by omega); omega
    · by_cases c' : m' < m
      · have := cum_mono m' m (y % 4 == 0) h3' c' (by omega); omega
      · omega
  subst hm
  exact ⟨rfl, rfl, by omega⟩
def oyo (n : Int) : Int := n / 1461 * 4 + min (n % 1461 / 365) 3 + 1
theorem oyo_spec (n : Int) (h0 : 0 ≤ n) (h1 : n ≤ 1460971) : 1 ≤ oyo n ∧ oyo n ≤ 4000 ∧ ody (oyo n) ≤ n ∧ n < ody (oyo n + 1) := by
  unfold oyo ody; omega
end Go.Proofs.Ythfehlmddlfcmaa
