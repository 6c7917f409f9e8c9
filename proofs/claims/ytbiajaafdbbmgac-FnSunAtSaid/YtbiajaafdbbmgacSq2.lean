/- Where the sun is: plain mathematics of the law. -/
import Derived.Test.YtbiajaafdbbmgacSi
namespace Go.Proofs.Ytbiajaafdbbmgac
set_option linter.unusedVariables false

theorem east_back (t h : Int) : eastI t (-h) = -eastI t h := by unfold eastI; rw [sin_neg]; grind
theorem north_back (l t h : Int) : northI l t (-h) = northI l t h := by unfold northI; rw [cos_neg]
theorem east_other (t h : Int) : eastI (-t) h = eastI t h := by unfold eastI; rw [cos_neg]
theorem north_other (l t h : Int) : northI (-l) (-t) h = -northI l t h := by unfold northI; rw [sin_neg, sin_neg, cos_neg, cos_neg]; grind
theorem sqn' (x : Int) : 0 ≤ x * x := by
  rcases Int.le_total 0 x with h | h
  · exact Int.mul_nonneg h h
  · exact Int.mul_nonneg_of_nonpos_of_nonpos h h
/-- The squares of the sun's numbers are together nearly that of the whole. -/
theorem sun_sq (l t h : Int) : 970200000000000000 ≤ eastI t h * eastI t h + northI l t h * northI l t h + upI l t h * upI l t h ∧ eastI t h * eastI t h + northI l t h * northI l t h + upI l t h * upI l t h ≤ 1030500000000000000 := by
  have s1 := sin_sum l; have s2 := sin_sum t; have s3 := sin_sum h
  unfold eastI northI upI
  generalize sinI l = a at *; generalize cosI l = b at *; generalize sinI t = c at *; generalize cosI t = d at *; generalize sinI h = f at *; generalize cosI h = e at *
  have id : -1000 * d * f * (-1000 * d * f) + (1000 * b * c - a * d * e) * (1000 * b * c - a * d * e) + (1000 * a * c + b * d * e) * (1000 * a * c + b * d * e) = (b * b + a * a) * (1000000 * (c * c) + (d * d) * (e * e)) + 1000000 * ((d * d) * (f * f)) := by grind
  rw [id]
  have c2 := sqn' c; have d2 := sqn' d; have e2 := sqn' e; have f2 := sqn' f
  generalize c * c = C at *; generalize d * d = D at *; generalize e * e = E at *; generalize f * f = F at *
  generalize hA : b * b + a * a = A at *
  have dE := Int.mul_nonneg d2 e2
  have dF := Int.mul_nonneg d2 f2
  have hX : 0 ≤ 1000000 * C + D * E := by omega
  have l1 := Int.mul_le_mul_of_nonneg_right (show (990000 : Int) ≤ A by omega) hX
  have u1 := Int.mul_le_mul_of_nonneg_right (show A ≤ (1010000 : Int) by omega) hX
  have hS : D * E + D * F = D * (E + F) := by rw [Int.mul_add]
  have l2 := Int.mul_le_mul_of_nonneg_left (show (990000 : Int) ≤ E + F by omega) d2
  have u2 := Int.mul_le_mul_of_nonneg_left (show E + F ≤ (1010000 : Int) by omega) d2
  omega
/-- What is lost when a number is divided. -/
theorem quo_sq (x : Int) (B : Int) (h0 : -(B * 1000000) ≤ x) (h1 : x ≤ B * 1000000) (hB : 0 ≤ B) :
    x.tdiv 1000000 * x.tdiv 1000000 * 1000000000000 ≤ x * x ∧ x * x ≤ x.tdiv 1000000 * x.tdiv 1000000 * 1000000000000 + 2000000 * B * 1000000 ∧ 0 ≤ x.tdiv 1000000 * x.tdiv 1000000 ∧ -B ≤ x.tdiv 1000000 ∧ x.tdiv 1000000 ≤ B := by
  have e1 := Int.mul_tdiv_add_tmod x 1000000
  have e2 := Int.tmod_lt_of_pos x (show (0 : Int) < 1000000 by omega)
  have e3 := Int.lt_tmod_of_pos x (show (0 : Int) < 1000000 by omega)
  have sg : (0 ≤ x → 0 ≤ x.tmod 1000000) ∧ (x ≤ 0 → x.tmod 1000000 ≤ 0) := by
    constructor
    · intro h; exact Int.tmod_nonneg _ h
    · intro h; have := Int.tmod_nonneg 1000000 (show 0 ≤ -x by omega); rw [Int.neg_tmod] at this; omega
  generalize x.tdiv 1000000 = q at *
  generalize x.tmod 1000000 = r at *
  have hx : x = 1000000 * q + r := by omega
  have q2 := sqn' q
  have id : x * x = q * q * 1000000000000 + 2000000 * (q * r) + r * r := by rw [hx]; grind
  have r2 := sqn' r
  have id2 : x * r = 1000000 * (q * r) + r * r := by rw [hx]; grind
  rcases Int.le_total 0 x with g | g
  · have hr := sg.1 g
    have hq : 0 ≤ q := by omega
    have hqr : 0 ≤ q * r := Int.mul_nonneg hq hr
    have m1 := Int.mul_le_mul_of_nonneg_left (show r ≤ 1000000 by omega) (show 0 ≤ x by omega)
    have m2 := Int.mul_nonneg g hr
    refine ⟨by omega, ?_, q2, by omega, by omega⟩
    have : 2000000 * (q * r) + r * r ≤ 2 * (x * r) := by omega
    omega
  · have hr := sg.2 g
    have hq : q ≤ 0 := by omega
    have hqr : 0 ≤ q * r := Int.mul_nonneg_of_nonpos_of_nonpos hq hr
    have m1 : x * r ≤ -x * 1000000 := by
      have := Int.mul_le_mul_of_nonneg_left (show -r ≤ 1000000 by omega) (show 0 ≤ -x by omega)
      rw [Int.mul_neg, Int.neg_mul, Int.neg_neg] at this; exact this
    refine ⟨by omega, ?_, q2, by omega, by omega⟩
    have : 2000000 * (q * r) + r * r ≤ 2 * (x * r) := by omega
    omega
theorem sun_sum {l t h e n u : Int} (he : eastI t h = e) (hn : northI l t h = n) (hu : upI l t h = u) :
    (0 ≤ e.tdiv 1000000 * e.tdiv 1000000 ∧ e.tdiv 1000000 * e.tdiv 1000000 ≤ 1040000) ∧ (0 ≤ n.tdiv 1000000 * n.tdiv 1000000 ∧ n.tdiv 1000000 * n.tdiv 1000000 ≤ 1040000) ∧ (0 ≤ u.tdiv 1000000 * u.tdiv 1000000 ∧ u.tdiv 1000000 * u.tdiv 1000000 ≤ 1040000) ∧
    960000 < e.tdiv 1000000 * e.tdiv 1000000 + n.tdiv 1000000 * n.tdiv 1000000 + u.tdiv 1000000 * u.tdiv 1000000 ∧ e.tdiv 1000000 * e.tdiv 1000000 + n.tdiv 1000000 * n.tdiv 1000000 + u.tdiv 1000000 * u.tdiv 1000000 < 1040000 ∧
    (-2000 ≤ e.tdiv 1000000 ∧ e.tdiv 1000000 ≤ 2000) ∧ (-2000 ≤ n.tdiv 1000000 ∧ n.tdiv 1000000 ≤ 2000) ∧ (-2000 ≤ u.tdiv 1000000 ∧ u.tdiv 1000000 ≤ 2000) := by
  have h0 := sun_sq l t h
  have b1 := east_bd t h; have b2 := north_bd l t h; have b3 := up_bd l t h
  rw [he, hn, hu] at h0; rw [he] at b1; rw [hn] at b2; rw [hu] at b3
  have q1 := quo_sq e 1000 (by omega) (by omega) (by omega)
  have q2 := quo_sq n 2000 (by omega) (by omega) (by omega)
  have q3 := quo_sq u 2000 (by omega) (by omega) (by omega)
  omega
end Go.Proofs.Ytbiajaafdbbmgac
