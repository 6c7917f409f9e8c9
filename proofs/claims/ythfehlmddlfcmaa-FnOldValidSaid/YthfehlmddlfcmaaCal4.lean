/- Calendars, in plain numbers: more on weeks and on the older calendar. -/
import Derived.Test.YthfehlmddlfcmaaCal3
namespace Go.Proofs.Ythfehlmddlfcmaa
theorem val_jan1 {y : Int} (h1 : 1 ≤ y) (h2 : y ≤ 4000) : valB y 1 1 = true := valB_mk h1 h2 (by omega) (by unfold dim; simp)
theorem val_dec31 {y : Int} (h1 : 1 ≤ y) (h2 : y ≤ 4000) : valB y 12 31 = true := valB_mk h1 h2 (by omega) (by unfold dim; simp)
theorem num_jan1 (y : Int) : num y 1 1 = dby y := by unfold num; rw [cum_one]; omega
theorem num_dec31 {y : Int} (h1 : 1 ≤ y) (h2 : y ≤ 4000) : num y 12 31 = dby (y + 1) - 1 := by
  rw [dby_succ y h1 h2]
  have hc : cum 12 (leapB y) = 334 + if leapB y = true then 1 else 0 := by cases leapB y <;> decide
  unfold num; rw [hc]; omega
theorem weeks_thu {y : Int} (h1 : 1 ≤ y) (h2 : y ≤ 4000) : weeks y = if num y 1 1 % 7 = 3 ∨ num y 12 31 % 7 = 3 then 53 else 52 := by
  rw [weeks_in h1 h2, num_jan1, num_dec31 h1 h2]
  have hs := dby_succ y h1 h2
  unfold fst
  split at hs <;> split <;> omega
theorem old_next {a b c a2 b2 c2 : Int} (v : oval a b c = true) (v2 : oval a2 b2 c2 = true) (e : onum a2 b2 c2 = onum a b c + 1) : (a2 = a ∧ b2 = b ∧ c2 = c + 1) ∨ c2 = 1 := by
  obtain ⟨p1, p2, p3, p4, p5, p6⟩ := oval_in v
  by_cases h : c + 1 ≤ dim b (a % 4 == 0)
  · have v3 : oval a b (c + 1) = true := oval_mk p1 p2 (by omega) h
    exact .inl (onum_inj v2 v3 (by rw [e]; unfold onum; omega))
  · right
    have hc : c = dim b (a % 4 == 0) := by omega
    by_cases hb : b < 12
    · have hs := cum_succ b (a % 4 == 0) p3 p4
      have hd := dim_in (b + 1) (a % 4 == 0) (by omega) (by omega)
      have v3 : oval a (b + 1) 1 = true := oval_mk p1 p2 (by omega) (by omega)
      exact (onum_inj v2 v3 (by rw [e]; unfold onum; omega)).2.2
    · have hb' : b = 12 := by omega
      subst hb'
      have hs := cum_succ 12 (a % 4 == 0) (by omega) (by omega)
      rw [show (12 : Int) + 1 = 13 by rfl, cum_13] at hs
      have ho := ody_succ a
      by_cases ha : a < 4000
      · have v3 : oval (a + 1) 1 1 = true := oval_mk (by omega) (by omega) (by omega) (by have := dim_in 1 ((a + 1) % 4 == 0) (by omega) (by omega); omega)
        exact (onum_inj v2 v3 (by rw [e]; unfold onum; rw [cum_one, ho]; omega)).2.2
      · have ha' : a = 4000 := by omega
        have i2 := onum_in v2
        obtain ⟨q1, q2, _⟩ := oval_in v2
        have : ody (a2 + 1) ≤ ody (a + 1) := by unfold ody; omega
        rw [e] at i2
        unfold onum at i2
        rw [ho] at this
        omega
end Go.Proofs.Ythfehlmddlfcmaa
