/- Calendars, in plain numbers: no program in sight. -/
namespace Go.Proofs.Ytoklehmoeollfaa
def inB (n a b : Int) : Bool := decide (a ≤ n ∧ n ≤ b)
theorem inB_t {n a b : Int} (h1 : a ≤ n) (h2 : n ≤ b) : inB n a b = true := by simp [inB, h1, h2]
theorem inB_f {n a b : Int} (h : ¬ (a ≤ n ∧ n ≤ b)) : inB n a b = false := by simp only [inB]; simpa using h
def leapB (y : Int) : Bool := decide (1 ≤ y ∧ y ≤ 4000) && decide (y % 4 = 0 ∧ (y % 100 ≠ 0 ∨ y % 400 = 0))
def dim (m : Int) (leap : Bool) : Int :=
  if m = 2 then (if leap = true then 29 else 28) else if m = 4 ∨ m = 6 ∨ m = 9 ∨ m = 11 then 30 else if 1 ≤ m ∧ m ≤ 12 then 31 else 0
theorem dim_out (m : Int) (l : Bool) (h : ¬ (1 ≤ m ∧ m ≤ 12)) : dim m l = 0 := by
  unfold dim; (repeat' split) <;> omega
theorem dim_in (m : Int) (l : Bool) (h1 : 1 ≤ m) (h2 : m ≤ 12) : 28 ≤ dim m l ∧ dim m l ≤ 31 := by
  unfold dim; (repeat' split) <;> omega
theorem dim_le (m : Int) (l : Bool) : 0 ≤ dim m l ∧ dim m l ≤ 31 := by
  unfold dim; (repeat' split) <;> omega
def ml (y m : Int) : Int := if 1 ≤ y ∧ y ≤ 4000 then dim m (leapB y) else 0
theorem ml_le (y m : Int) : 0 ≤ ml y m ∧ ml y m ≤ 31 := by
  unfold ml; split
  · exact dim_le _ _
  · omega
def yl (y : Int) : Int := if 1 ≤ y ∧ y ≤ 4000 then (if leapB y = true then 366 else 365) else 0
def valB (y m d : Int) : Bool := decide (1 ≤ d ∧ d ≤ ml y m)
theorem valB_iff (y m d : Int) : valB y m d = true ↔ 1 ≤ d ∧ d ≤ ml y m := by simp [valB]
theorem valB_in {y m d : Int} (h : valB y m d = true) : 1 ≤ y ∧ y ≤ 4000 ∧ 1 ≤ m ∧ m ≤ 12 ∧ 1 ≤ d ∧ d ≤ dim m (leapB y) := by
  rw [valB_iff] at h
  unfold ml at h
  by_cases hy : 1 ≤ y ∧ y ≤ 4000
  · rw [if_pos hy] at h
    by_cases hm : 1 ≤ m ∧ m ≤ 12
    · omega
    · rw [dim_out _ _ hm] at h; omega
  · rw [if_neg hy] at h; omega
theorem valB_mk {y m d : Int} (h1 : 1 ≤ y) (h2 : y ≤ 4000) (h3 : 1 ≤ d) (h4 : d ≤ dim m (leapB y)) : valB y m d = true := by
  rw [valB_iff, ml, if_pos ⟨h1, h2⟩]; exact ⟨h3, h4⟩
/-- The days of the months before. -/
def cum (m : Int) (l : Bool) : Int :=
  if m ≤ 1 then 0 else if m = 2 then 31 else (if l = true then 1 else 0) + (if m = 3 then 59 else if m = 4 then 90 else if m = 5 then 120 else if m = 6 then 151 else if m = 7 then 181 else if m = 8 then 212 else if m = 9 then 243 else if m = 10 then 273 else if m = 11 then 304 else if m = 12 then 334 else 365)
theorem cum_succ (m : Int) (l : Bool) (h1 : 1 ≤ m) (h2 : m ≤ 12) : cum (m + 1) l = cum m l + dim m l := by
  have hm : m = 1 ∨ m = 2 ∨ m = 3 ∨ m = 4 ∨ m = 5 ∨ m = 6 ∨ m = 7 ∨ m = 8 ∨ m = 9 ∨ m = 10 ∨ m = 11 ∨ m = 12 := by omega
  rcases hm with rfl | rfl | rfl | rfl | rfl | rfl | rfl | rfl | rfl | rfl | rfl | rfl <;> cases l <;> rfl
theorem cum_one (l : Bool) : cum 1 l = 0 := rfl
theorem cum_bd (m : Int) (l : Bool) (h1 : 1 ≤ m) (h2 : m ≤ 12) : 0 ≤ cum m l ∧ cum m l ≤ 366 := by
  have hm : m = 1 ∨ m = 2 ∨ m = 3 ∨ m = 4 ∨ m = 5 ∨ m = 6 ∨ m = 7 ∨ m = 8 ∨ m = 9 ∨ m = 10 ∨ m = 11 ∨ m = 12 := by omega
  rcases hm with rfl | rfl | rfl | rfl | rfl | rfl | rfl | rfl | rfl | rfl | rfl | rfl <;> cases l <;> decide
theorem cum_13 (l : Bool) : cum 13 l = 365 + (if l = true then 1 else 0) := by cases l <;> rfl
theorem cum_bd2 (m : Int) (l : Bool) (h1 : 1 ≤ m) (h2 : m ≤ 12) : 28 * (m - 1) ≤ cum m l ∧ cum m l ≤ 31 * (m - 1) := by
  have hm : m = 1 ∨ m = 2 ∨ m = 3 ∨ m = 4 ∨ m = 5 ∨ m = 6 ∨ m = 7 ∨ m = 8 ∨ m = 9 ∨ m = 10 ∨ m = 11 ∨ m = 12 := by omega
  rcases hm with rfl | rfl | rfl | rfl | rfl | rfl | rfl | rfl | rfl | rfl | rfl | rfl <;> cases l <;> decide
theorem cum_mono (m k : Int) (l : Bool) (h1 : 1 ≤ m) (h : m < k) (h2 : k ≤ 13) : cum m l + dim m l ≤ cum k l := by
  rw [← cum_succ m l h1 (by omega)]
  have : ∀ n : Nat, m + 1 + n ≤ 13 → cum (m + 1) l ≤ cum (m + 1 + n) l := by
    intro n
    induction n with
    | zero => intro _; simp
    | succ n ih =>
      intro hn
      have := ih (by omega)
      have hs := cum_succ (m + 1 + n) l (by omega) (by omega)
      have := dim_le (m + 1 + n) l
      rw [show m + 1 + ((n + 1 : Nat) : Int) = m + 1 + (n : Int) + 1 by omega]
      omega
  have := this (k - (m + 1)).toNat (by omega)
  rwa [show m + 1 + ((k - (m + 1)).toNat : Int) = k by omega] at this
/-- The days of the years before. -/
def dby (y : Int) : Int := (y - 1) * 365 + (y - 1) / 4 - (y - 1) / 100 + (y - 1) / 400
theorem dby_bd (y : Int) (h1 : 0 ≤ y) (h2 : y ≤ 4002) : -366 ≤ dby y ∧ dby y ≤ 1461700 := by unfold dby; omega
theorem leapB_iff (y : Int) : leapB y = true ↔ 1 ≤ y ∧ y ≤ 4000 ∧ y % 4 = 0 ∧ (y % 100 ≠ 0 ∨ y % 400 = 0) := by
  simp [leapB, and_assoc]
theorem dby_succ (y : Int) (h1 : 1 ≤ y) (h2 : y ≤ 4000) : dby (y + 1) = dby y + 365 + (if leapB y = true then 1 else 0) := by
  unfold dby
  by_cases h : leapB y = true
  · rw [if_pos h]; rw [leapB_iff] at h; omega
  · rw [if_neg h]; rw [leapB_iff] at h; omega
theorem dby_mono (a b : Int) (h : a < b) : dby a + 365 ≤ dby b := by unfold dby; omega
def num (y m d : Int) : Int := dby y + cum m (leapB y) + d - 1
theorem num_in {y m d : Int} (h : valB y m d = true) : dby y ≤ num y m d ∧ num y m d < dby (y + 1) := by
  obtain ⟨h1, h2, h3, h4, h5, h6⟩ := valB_in h
  have hs := dby_succ y h1 h2
  have hm := cum_mono m 13 (leapB y) h3 (by omega) (by omega)
  have hc := cum_bd m (leapB y) h3 h4
  rw [cum_13] at hm
  unfold num
  omega
theorem num_bd {y m d : Int} (h : valB y m d = true) : 0 ≤ num y m d ∧ num y m d ≤ 1460969 := by
  have h0 := num_in h
  obtain ⟨h1, h2, _⟩ := valB_in h
  have a : dby 1 ≤ dby y := by unfold dby; omega
  have b : dby (y + 1) ≤ dby 4001 := by unfold dby; omega
  have : dby 1 = 0 := by decide
  have : dby 4001 = 1460970 := by decide
  omega
theorem num_inj {y m d y' m' d' : Int} (h : valB y m d = true) (h' : valB y' m' d' = true) (e : num y m d = num y' m' d') : y = y' ∧ m = m' ∧ d = d' := by
  have a := num_in h
  have a' := num_in h'
  obtain ⟨h1, h2, h3, h4, h5, h6⟩ := valB_in h
  obtain ⟨h1', h2', h3', h4', h5', h6'⟩ := valB_in h'
  have hy : y = y' := by
    by_cases c : y < y'
    · have : dby (y + 1) ≤ dby y' := by unfold dby; omega
      omega
    · by_cases c' : y' < y
      · have : dby (y' + 1) ≤ dby y := by unfold dby; omega
        omega
      · omega
  subst hy
  unfold num at e
  have hm : m = m' := by
    by_cases c : m < m'
    · have := cum_mono m m' (leapB y) h3 c (by omega); omega
    · by_cases c' : m' < m
      · have := cum_mono m' m (leapB y) h3' c' (by omega); omega
      · omega
  subst hm
  exact ⟨rfl, rfl, by omega⟩
end Go.Proofs.Ytoklehmoeollfaa
