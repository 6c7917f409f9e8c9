/- Calendars, in plain numbers: the year of a day, weeks. -/
import Derived.Test.YtpkjgepchincjaaDoorCal
namespace Go.Proofs.YtpkjgepchincjaaDoor
def yofR (n : Int) : Int := n % 146097 - min (n % 146097 / 36524) 3 * 36524
def yof (n : Int) : Int := n / 146097 * 400 + min (n % 146097 / 36524) 3 * 100 + yofR n / 1461 * 4 + min (yofR n % 1461 / 365) 3 + 1
theorem dby_parts (q h c s : Int) (_hq : 0 ≤ q) (h0 : 0 ≤ h) (h1 : h ≤ 3) (c0 : 0 ≤ c) (c1 : c ≤ 24) (s0 : 0 ≤ s) (s1 : s ≤ 3) :
    dby (q * 400 + h * 100 + c * 4 + s + 1) = q * 146097 + h * 36524 + c * 1461 + s * 365 := by
  unfold dby
  have e1 : (q * 400 + h * 100 + c * 4 + s + 1 - 1) / 4 = q * 100 + h * 25 + c := by omega
  have e2 : (q * 400 + h * 100 + c * 4 + s + 1 - 1) / 100 = q * 4 + h := by omega
  have e3 : (q * 400 + h * 100 + c * 4 + s + 1 - 1) / 400 = q := by omega
  rw [e1, e2, e3]; omega
theorem yof_spec (n : Int) (h0 : 0 ≤ n) (h1 : n ≤ 1460969) : 1 ≤ yof n ∧ yof n ≤ 4000 ∧ dby (yof n) ≤ n ∧ n < dby (yof n + 1) := by
  have a : 0 ≤ yofR n ∧ yofR n ≤ 36524 := by unfold yofR; omega
  have b : n = n / 146097 * 146097 + min (n % 146097 / 36524) 3 * 36524 + yofR n := by unfold yofR; omega
  have hh : 0 ≤ min (n % 146097 / 36524) 3 ∧ min (n % 146097 / 36524) 3 ≤ 3 := by omega
  have hq : 0 ≤ n / 146097 ∧ n / 146097 ≤ 9 := by omega
  have ha3 : min (n % 146097 / 36524) 3 < 3 → yofR n < 36524 := by unfold yofR; omega
  generalize hd : yofR n = r at *
  unfold yof
  rw [hd]
  generalize n / 146097 = q at *
  generalize min (n % 146097 / 36524) 3 = h at *
  have hc : 0 ≤ r / 1461 ∧ r / 1461 ≤ 24 := by omega
  have hs : 0 ≤ min (r % 1461 / 365) 3 ∧ min (r % 1461 / 365) 3 ≤ 3 := by omega
  have e := dby_parts q h (r / 1461) (min (r % 1461 / 365) 3) (by omega) (by omega) (by omega) (by omega) (by omega) (by omega) (by omega)
  refine ⟨by omega, by omega, by rw [e]; omega, ?_⟩
  have hrs : r < r / 1461 * 1461 + min (r % 1461 / 365) 3 * 365 + 365 + (if min (r % 1461 / 365) 3 = 3 then 1 else 0) := by split <;> omega
  by_cases k : min (r % 1461 / 365) 3 < 3
  · have e2 := dby_parts q h (r / 1461) (min (r % 1461 / 365) 3 + 1) (by omega) (by omega) (by omega) (by omega) (by omega) (by omega) (by omega)
    rw [← Int.add_assoc] at e2
    rw [e2, b]
    rw [if_neg (by omega)] at hrs
    omega
  · have hs3 : min (r % 1461 / 365) 3 = 3 := by omega
    rw [hs3] at hrs ⊢
    rw [if_pos rfl] at hrs
    by_cases k2 : r / 1461 < 24
    · have e2 := dby_parts q h (r / 1461 + 1) 0 (by omega) (by omega) (by omega) (by omega) (by omega) (by omega) (by omega)
      rw [show q * 400 + h * 100 + (r / 1461 + 1) * 4 + 0 + 1 = q * 400 + h * 100 + r / 1461 * 4 + 3 + 1 + 1 by omega] at e2
      rw [e2, b]; omega
    · have hc24 : r / 1461 = 24 := by omega
      rw [hc24]
      by_cases k3 : h < 3
      · have e2 := dby_parts q (h + 1) 0 0 (by omega) (by omega) (by omega) (by omega) (by omega) (by omega) (by omega)
        rw [show q * 400 + (h + 1) * 100 + 0 * 4 + 0 + 1 = q * 400 + h * 100 + 24 * 4 + 3 + 1 + 1 by omega] at e2
        rw [e2, b]
        have := ha3 (by omega)
        omega
      · have e2 := dby_parts (q + 1) 0 0 0 (by omega) (by omega) (by omega) (by omega) (by omega) (by omega) (by omega)
        rw [show (q + 1) * 400 + 0 * 100 + 0 * 4 + 0 + 1 = q * 400 + h * 100 + 24 * 4 + 3 + 1 + 1 by omega] at e2
        rw [e2, b]; omega
theorem year_unique {y z n : Int} (h1 : dby y ≤ n) (h2 : n < dby (y + 1)) (h3 : dby z ≤ n) (h4 : n < dby (z + 1)) : y = z := by
  by_cases c : y < z
  · have : dby (y + 1) ≤ dby z := by unfold dby; omega
    omega
  · by_cases c' : z < y
    · have : dby (z + 1) ≤ dby y := by unfold dby; omega
      omega
    · omega
theorem dby_400 (y : Int) : dby (y + 400) = dby y + 146097 := by unfold dby; omega
theorem leapB_400 {y : Int} (h1 : 1 ≤ y) (h2 : y + 400 ≤ 4000) : leapB (y + 400) = leapB y := by
  rw [Bool.eq_iff_iff, leapB_iff, leapB_iff]; omega
theorem later_date {a b c a2 b2 c2 : Int} (v : valB a b c = true) (v2 : valB a2 b2 c2 = true) (e : num a2 b2 c2 = num a b c + 146097) : a2 = a + 400 ∧ b2 = b ∧ c2 = c := by
  have i := num_in v
  have i2 := num_in v2
  obtain ⟨p1, p2, p3, p4, p5, p6⟩ := valB_in v
  obtain ⟨q1, q2, q3, q4, q5, q6⟩ := valB_in v2
  have d1 := dby_400 a
  have d2 := dby_400 (a + 1)
  rw [show a + 1 + 400 = a + 400 + 1 by omega] at d2
  rw [e] at i2
  have hy : a2 = a + 400 := year_unique i2.1 i2.2 (by omega) (by omega)
  subst hy
  have hl := leapB_400 p1 q2
  have v3 : valB (a + 400) b c = true := valB_mk q1 q2 p5 (by rw [hl]; exact p6)
  have e3 : num (a + 400) b c = num a b c + 146097 := by unfold num; rw [hl, d1]; omega
  exact num_inj v2 v3 (e.trans e3.symm)
/-- The Monday of the first week of a year. -/
def fst (y : Int) : Int := dby y + 3 - (dby y + 3) % 7
theorem fst_mono {y z : Int} (h : y < z) : fst y < fst z := by
  have := dby_mono y z h
  unfold fst; omega
theorem fst_unique {y z n : Int} (h1 : fst y ≤ n) (h2 : n < fst (y + 1)) (h3 : fst z ≤ n) (h4 : n < fst (z + 1)) : y = z := by
  by_cases c : y < z
  · by_cases e : y + 1 = z
    · subst e; omega
    · have := fst_mono (y := y + 1) (z := z) (by omega); omega
  · by_cases c' : z < y
    · by_cases e : z + 1 = y
      · subst e; omega
      · have := fst_mono (y := z + 1) (z := y) (by omega); omega
    · omega
theorem thu_fst {y n : Int} (h1 : dby y ≤ n - n % 7 + 3) (h2 : n - n % 7 + 3 < dby (y + 1)) : fst y ≤ n ∧ n < fst (y + 1) ∧ (n - n % 7 + 3 - dby y) / 7 = (n - fst y) / 7 := by
  unfold fst; omega
def weeks (y : Int) : Int := if 1 ≤ y ∧ y ≤ 4000 then (fst (y + 1) - fst y) / 7 else 0
theorem weeks_in {y : Int} (h1 : 1 ≤ y) (h2 : y ≤ 4000) : weeks y = (fst (y + 1) - fst y) / 7 := by rw [weeks, if_pos ⟨h1, h2⟩]
theorem fst_7 (y : Int) : fst y % 7 = 0 := by unfold fst; omega
theorem fst_1 : fst 1 = 0 := by decide
theorem fst_4001 : fst 4001 = 1460970 := by decide
theorem fst_bd {y : Int} (h1 : 1 ≤ y) (h2 : y ≤ 4001) : 0 ≤ fst y ∧ fst y ≤ 1460970 := by
  have a : fst 1 ≤ fst y := by
    by_cases e : 1 = y
    · subst e; omega
    · have := fst_mono (y := 1) (z := y) (by omega); omega
  have b : fst y ≤ fst 4001 := by
    by_cases e : y = 4001
    · subst e; omega
    · have := fst_mono (y := y) (z := 4001) (by omega); omega
  rw [fst_1] at a; rw [fst_4001] at b; exact ⟨a, b⟩
theorem val_dec28 {y : Int} (h1 : 1 ≤ y) (h2 : y ≤ 4000) : valB y 12 28 = true := valB_mk h1 h2 (by omega) (by unfold dim; simp)
theorem val_jan4 {y : Int} (h1 : 1 ≤ y) (h2 : y ≤ 4000) : valB y 1 4 = true := valB_mk h1 h2 (by omega) (by unfold dim; simp)
theorem num_jan4 (y : Int) : num y 1 4 = dby y + 3 := by unfold num; rw [cum_one]; omega
theorem dec28_week {y : Int} (h1 : 1 ≤ y) (h2 : y ≤ 4000) : fst y ≤ num y 12 28 ∧ num y 12 28 < fst (y + 1) ∧ (num y 12 28 - fst y) / 7 + 1 = weeks y := by
  have hs := dby_succ y h1 h2
  rw [weeks_in h1 h2]
  have hc : cum 12 (leapB y) = 334 + if leapB y = true then 1 else 0 := by cases leapB y <;> decide
  unfold num fst
  rw [hs, hc]
  split <;> omega
end Go.Proofs.YtpkjgepchincjaaDoor
