/- Contracts of chapter 5: fractions and intervals of the program. -/
import Derived.Test.YtigndpajpofofaaVs
namespace Go.Proofs.Ytigndpajpofofaa
open Go Go.ChangeShapes Go.WideShapes Go.ChangeAt Go.RowKit
set_option linter.unusedSimpArgs false
set_option linter.unusedVariables false

theorem mulC {a b p q : Int} (h0 : -p ≤ a) (h1 : a ≤ p) (h2 : -q ≤ b) (h3 : b ≤ q) : -(p * q) ≤ a * b ∧ a * b ≤ p * q := by
  have e1 := Int.mul_nonneg (show 0 ≤ p - a by omega) (show 0 ≤ q + b by omega)
  have e2 := Int.mul_nonneg (show 0 ≤ p + a by omega) (show 0 ≤ q - b by omega)
  have e3 := Int.mul_nonneg (show 0 ≤ p - a by omega) (show 0 ≤ q - b by omega)
  have e4 := Int.mul_nonneg (show 0 ≤ p + a by omega) (show 0 ≤ q + b by omega)
  simp only [Int.sub_mul, Int.add_mul, Int.mul_add, Int.mul_sub] at e1 e2 e3 e4
  omega
/-- Numbers of fractions are small. -/
def FrOk (x : Int × Int) : Prop := (-100 ≤ x.1 ∧ x.1 ≤ 100) ∧ (1 ≤ x.2 ∧ x.2 ≤ 20)
theorem FrOk.max {x y : Int × Int} (hx : FrOk x) (hy : FrOk y) : FrOk (maxF x y) := by unfold maxF; split <;> assumption
theorem FrOk.min {x y : Int × Int} (hx : FrOk x) (hy : FrOk y) : FrOk (minF x y) := by unfold minF; split <;> assumption
set_option maxHeartbeats 4000000 in
theorem befR_any (a b c d : Int) (w : World) (hx : FrOk (a, b)) (hy : FrOk (c, d)) :
    Calls Try.prog 93 #[.int .i64 1, .agg #[.int .i64 a, .int .i64 b], .agg #[.int .i64 c, .int .i64 d]] w fun E w' => E = .returned (.bool (decide (a * d < c * b))) ∧ Below w.heap.size w w' := by
  obtain ⟨⟨a0, a1⟩, b0, b1⟩ := hx
  obtain ⟨⟨c0, c1⟩, d0, d1⟩ := hy
  simp only at a0 a1 b0 b1 c0 c1 d0 d1
  have m1 := mulC (p := 100) (q := 20) (a := a) (b := d) (by omega) (by omega) (by omega) (by omega)
  have m2 := mulC (p := 100) (q := 20) (a := c) (b := b) (by omega) (by omega) (by omega) (by omega)
  simp only [Int.reduceMul, Int.reduceNeg] at m1 m2
  obtain ⟨m10, m11⟩ := m1
  obtain ⟨m20, m21⟩ := m2
  go_enter Try.func93, Try.ntmps93
  go_wp2
  all_goals go_ret
  all_goals exact ⟨ret_bool (by first | rfl | (rw [Bool.eq_iff_iff]; simp_all; try omega)), (bel1 _ _).alloc (by simp) _⟩
set_option maxHeartbeats 4000000 in
theorem befF_any (a b c d : Int) (w : World) (hx : FrOk (a, b)) (hy : FrOk (c, d)) :
    Calls Try.prog 93 #[.int .i64 (-1), .agg #[.int .i64 a, .int .i64 b], .agg #[.int .i64 c, .int .i64 d]] w fun E w' => E = .returned (.bool (decide (c * b < a * d))) ∧ Below w.heap.size w w' := by
  obtain ⟨⟨a0, a1⟩, b0, b1⟩ := hx
  obtain ⟨⟨c0, c1⟩, d0, d1⟩ := hy
  simp only at a0 a1 b0 b1 c0 c1 d0 d1
  have m1 := mulC (p := 100) (q := 20) (a := a) (b := d) (by omega) (by omega) (by omega) (by omega)
  have m2 := mulC (p := 100) (q := 20) (a := c) (b := b) (by omega) (by omega) (by omega) (by omega)
  simp only [Int.reduceMul, Int.reduceNeg] at m1 m2
  obtain ⟨m10, m11⟩ := m1
  obtain ⟨m20, m21⟩ := m2
  have n1 : -1 * a * d = -(a * d) := by grind
  have n2 : -1 * c * b = -(c * b) := by grind
  have n3 : (-a) * d = -(a * d) := by grind
  have n4 : (-c) * b = -(c * b) := by grind
  go_enter Try.func93, Try.ntmps93
  go_wp2
  all_goals go_ret
  all_goals exact ⟨ret_bool (by first | rfl | (rw [Bool.eq_iff_iff]; simp_all; try omega)), (bel1 _ _).alloc (by simp) _⟩
set_option maxHeartbeats 4000000 in
theorem lastR_any (a b c d : Int) (w : World) (hx : FrOk (a, b)) (hy : FrOk (c, d)) :
    Calls Try.prog 94 #[.agg #[.int .i64 a, .int .i64 b], .agg #[.int .i64 c, .int .i64 d], .func (.func 93) #[.int .i64 1] #[]] w fun E w' => E = .returned (.agg #[.int .i64 (maxF (a, b) (c, d)).1, .int .i64 (maxF (a, b) (c, d)).2]) ∧ Below w.heap.size w w' := by
  by_cases h : a * d < c * b
  · have e : maxF (a, b) (c, d) = (c, d) := by unfold maxF; exact if_pos h
    rw [e]
    have dd : decide (a * d < c * b) = true := by simpa using h
    clear e h
    go_enter Try.func94, Try.ntmps94
    go_wp2_with fail
    refine (befR_any a b c d _ hx hy).mono ?_; rintro E w1 ⟨rfl, hw1⟩
    obtain ⟨hP1, hQ1, hR1, hB1⟩ := ownb3 hw1
    obtain ⟨p0, p1, _, _, zp⟩ := blk2 hP1
    obtain ⟨q0, q1, _, _, zq⟩ := blk2 hQ1
    obtain ⟨r0, r1, _, _, zr⟩ := blk2 hR1
    have hR2 := blk2_set (a := .int .i64 c) (b := .int .i64 d) hR1
    obtain ⟨s0, s1, _, _, _⟩ := blk2 hR2
    go_wp2
    exact bodyPost_ret (v := .agg #[.int .i64 c, .int .i64 d]) (by simp [results, Try.results94, go_sem, s0, s1]) rfl ⟨rfl, store2_bel hB1 (by omega) _ _⟩
  · have e : maxF (a, b) (c, d) = (a, b) := by unfold maxF; exact if_neg h
    rw [e]
    have dd : decide (a * d < c * b) = false := by simpa using h
    clear e h
    go_enter Try.func94, Try.ntmps94
    go_wp2_with fail
    refine (befR_any a b c d _ hx hy).mono ?_; rintro E w1 ⟨rfl, hw1⟩
    obtain ⟨hP1, hQ1, hR1, hB1⟩ := ownb3 hw1
    obtain ⟨p0, p1, _, _, zp⟩ := blk2 hP1
    obtain ⟨q0, q1, _, _, zq⟩ := blk2 hQ1
    obtain ⟨r0, r1, _, _, zr⟩ := blk2 hR1
    have hR2 := blk2_set (a := .int .i64 a) (b := .int .i64 b) hR1
    obtain ⟨s0, s1, _, _, _⟩ := blk2 hR2
    go_wp2
    exact bodyPost_ret (v := .agg #[.int .i64 a, .int .i64 b]) (by simp [results, Try.results94, go_sem, s0, s1]) rfl ⟨rfl, store2_bel hB1 (by omega) _ _⟩
set_option maxHeartbeats 4000000 in
theorem lastF_any (a b c d : Int) (w : World) (hx : FrOk (a, b)) (hy : FrOk (c, d)) :
    Calls Try.prog 94 #[.agg #[.int .i64 a, .int .i64 b], .agg #[.int .i64 c, .int .i64 d], .func (.func 93) #[.int .i64 (-1)] #[]] w fun E w' => E = .returned (.agg #[.int .i64 (minF (a, b) (c, d)).1, .int .i64 (minF (a, b) (c, d)).2]) ∧ Below w.heap.size w w' := by
  by_cases h : c * b < a * d
  · have e : minF (a, b) (c, d) = (c, d) := by unfold minF; exact if_pos h
    rw [e]
    have dd : decide (c * b < a * d) = true := by simpa using h
    clear e h
    go_enter Try.func94, Try.ntmps94
    go_wp2_with fail
    refine (befF_any a b c d _ hx hy).mono ?_; rintro E w1 ⟨rfl, hw1⟩
    obtain ⟨hP1, hQ1, hR1, hB1⟩ := ownb3 hw1
    obtain ⟨p0, p1, _, _, zp⟩ := blk2 hP1
    obtain ⟨q0, q1, _, _, zq⟩ := blk2 hQ1
    obtain ⟨r0, r1, _, _, zr⟩ := blk2 hR1
    have hR2 := blk2_set (a := .int .i64 c) (b := .int .i64 d) hR1
    obtain ⟨s0, s1, _, _, _⟩ := blk2 hR2
    go_wp2
    exact bodyPost_ret (v := .agg #[.int .i64 c, .int .i64 d]) (by simp [results, Try.results94, go_sem, s0, s1]) rfl ⟨rfl, store2_bel hB1 (by omega) _ _⟩
  · have e : minF (a, b) (c, d) = (a, b) := by unfold minF; exact if_neg h
    rw [e]
    have dd : decide (c * b < a * d) = false := by simpa using h
    clear e h
    go_enter Try.func94, Try.ntmps94
    go_wp2_with fail
    refine (befF_any a b c d _ hx hy).mono ?_; rintro E w1 ⟨rfl, hw1⟩
    obtain ⟨hP1, hQ1, hR1, hB1⟩ := ownb3 hw1
    obtain ⟨p0, p1, _, _, zp⟩ := blk2 hP1
    obtain ⟨q0, q1, _, _, zq⟩ := blk2 hQ1
    obtain ⟨r0, r1, _, _, zr⟩ := blk2 hR1
    have hR2 := blk2_set (a := .int .i64 a) (b := .int .i64 b) hR1
    obtain ⟨s0, s1, _, _, _⟩ := blk2 hR2
    go_wp2
    exact bodyPost_ret (v := .agg #[.int .i64 a, .int .i64 b]) (by simp [results, Try.results94, go_sem, s0, s1]) rfl ⟨rfl, store2_bel hB1 (by omega) _ _⟩
theorem iInV_is2 (n a b : Int) (r : Bool) (w : World) (h : inV n a b = r) : Calls Try.prog 55 #[.int .i64 n, .int .i64 a, .int .i64 b] w fun E w' => E = .returned (.bool r) ∧ w = w' := by subst h; exact iInV_any n a b w
set_option maxHeartbeats 4000000 in
theorem within_any (p r lo hi : Int) (w : World) (p0 : -100 ≤ p) (p1 : p ≤ 100) (r0 : -100 ≤ r) (r1 : r ≤ 100) (l0 : -100 ≤ lo) (l1 : lo ≤ 100) (h0 : -100 ≤ hi) (h1 : hi ≤ 100) :
    Calls Try.prog 92 #[.int .i64 p, .int .i64 r, .int .i64 lo, .int .i64 hi] w fun E w' => E = .returned (.agg #[.int .i64 (sN p r lo hi), .int .i64 (dN r), .int .i64 (eN p r lo hi), .int .i64 (dN r)]) ∧ Below w.heap.size w w' := by
  by_cases g1 : 0 < r
  · have e1 : sN p r lo hi = lo - p := by unfold sN; exact if_pos g1
    have e2 : eN p r lo hi = hi - p := by unfold eN; exact if_pos g1
    have e3 : dN r = r := by unfold dN; exact if_pos g1
    rw [e1, e2, e3]; clear e1 e2 e3
    go_enter Try.func92, Try.ntmps92
    go_wp2
    exact bodyPost_ret (v := .agg #[.int .i64 (lo - p), .int .i64 r, .int .i64 (hi - p), .int .i64 r]) (by simp [results, Try.results92, go_sem]) rfl ⟨rfl, by repeat (first | exact Below.refl _ _ | refine Below.setCell ?_ (by simp <;> omega) _ | refine Below.alloc ?_ (by simp <;> omega) _)⟩
  · by_cases h2 : r < 0
    · have e1 : sN p r lo hi = p - hi := by unfold sN; rw [if_neg g1, if_pos h2]
      have e2 : eN p r lo hi = p - lo := by unfold eN; rw [if_neg g1, if_pos h2]
      have e3 : dN r = -r := by unfold dN; rw [if_neg g1, if_pos h2]
      rw [e1, e2, e3]; clear e1 e2 e3
      go_enter Try.func92, Try.ntmps92
      go_wp2
      exact bodyPost_ret (v := .agg #[.int .i64 (p - hi), .int .i64 (-r), .int .i64 (p - lo), .int .i64 (-r)]) (by simp [results, Try.results92, go_sem]) rfl ⟨rfl, by repeat (first | exact Below.refl _ _ | refine Below.setCell ?_ (by simp <;> omega) _ | refine Below.alloc ?_ (by simp <;> omega) _)⟩
    · obtain rfl : r = 0 := by omega
      by_cases h3 : lo ≤ p ∧ p ≤ hi
      · have e1 : sN p 0 lo hi = 0 := by unfold sN; rw [if_neg g1, if_neg h2, if_pos h3]
        have e2 : eN p 0 lo hi = 30 := by unfold eN; rw [if_neg g1, if_neg h2, if_pos h3]
        have e3 : dN 0 = 1 := rfl
        have e4 : inV p lo hi = true := by unfold inV; exact decide_eq_true h3
        rw [e1, e2, e3]; have H4 := Lib.hid e4; clear e1 e2 e3 e4
        go_enter Try.func92, Try.ntmps92
        go_wp2_with (go_at_call 55; refine (iInV_is2 _ _ _ _ _ H4.out).mono ?_; rintro E w' ⟨rfl, rfl⟩)
        exact bodyPost_ret (v := .agg #[.int .i64 0, .int .i64 1, .int .i64 30, .int .i64 1]) (by simp [results, Try.results92, go_sem]) rfl ⟨rfl, by repeat (first | exact Below.refl _ _ | refine Below.setCell ?_ (by simp <;> omega) _ | refine Below.alloc ?_ (by simp <;> omega) _)⟩
      · have e1 : sN p 0 lo hi = 1 := by unfold sN; rw [if_neg g1, if_neg h2, if_neg h3]
        have e2 : eN p 0 lo hi = 0 := by unfold eN; rw [if_neg g1, if_neg h2, if_neg h3]
        have e3 : dN 0 = 1 := rfl
        have e4 : inV p lo hi = false := by unfold inV; exact decide_eq_false h3
        rw [e1, e2, e3]; have H4 := Lib.hid e4; clear e1 e2 e3 e4
        go_enter Try.func92, Try.ntmps92
        go_wp2_with (go_at_call 55; refine (iInV_is2 _ _ _ _ _ H4.out).mono ?_; rintro E w' ⟨rfl, rfl⟩)
        exact bodyPost_ret (v := .agg #[.int .i64 1, .int .i64 1, .int .i64 0, .int .i64 1]) (by simp [results, Try.results92, go_sem]) rfl ⟨rfl, by repeat (first | exact Below.refl _ _ | refine Below.setCell ?_ (by simp <;> omega) _ | refine Below.alloc ?_ (by simp <;> omega) _)⟩
end Go.Proofs.Ytigndpajpofofaa
