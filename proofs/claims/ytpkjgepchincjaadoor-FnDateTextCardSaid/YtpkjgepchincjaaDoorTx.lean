/- The order of texts of dates: a later day has a greater text. -/
import Derived.Test.YtpkjgepchincjaaDoorTa
import Derived.Test.YtpkjgepchincjaaDoorRows
namespace Go.Proofs.YtpkjgepchincjaaDoor
open Go

theorem bl_nil (x : List UInt8) : Op.bytesLess x [] = false := by cases x <;> rfl
theorem bl_app : ∀ (p q x y : List UInt8), p.length = q.length → Op.bytesLess (p ++ x) (q ++ y) = (Op.bytesLess p q || (p == q && Op.bytesLess x y))
  | [], [], x, y, _ => by simp [Op.bytesLess]
  | [], _ :: _, _, _, h => by simp at h
  | _ :: _, [], _, _, h => by simp at h
  | a :: p, b :: q, x, y, h => by
    have ih := bl_app p q x y (by simpa using h)
    simp only [List.cons_append, Op.bytesLess, ih, List.cons_beq_cons]
    cases decide (a < b) <;> cases (a == b) <;> simp
theorem dg_lt {a b : Nat} (ha : a < 10) (hb : b < 10) : decide (dg a < dg b) = decide (a < b) := by
  rw [Bool.eq_iff_iff]; simp only [decide_eq_true_eq, UInt8.lt_iff_toNat_lt, dg_nat ha, dg_nat hb]; omega
theorem dg_eq {a b : Nat} (ha : a < 10) (hb : b < 10) : (dg a == dg b) = decide (a = b) := by
  rw [Bool.eq_iff_iff]
  simp only [decide_eq_true_eq, beq_iff_eq]
  constructor
  · intro h
    have := congrArg UInt8.toNat h
    rw [dg_nat ha, dg_nat hb] at this; omega
  · rintro rfl; rfl
theorem bl_two {m n : Nat} (hm : m < 100) (hn : n < 100) : Op.bytesLess (two m) (two n) = decide (m < n) := by
  unfold two
  simp only [Op.bytesLess]
  rw [dg_lt (by omega) (by omega), dg_lt (by omega) (by omega), dg_eq (by omega) (by omega), Bool.eq_iff_iff]
  simp; omega
theorem two_eq {m n : Nat} (hm : m < 100) (hn : n < 100) : (two m == two n) = decide (m = n) := by
  unfold two
  simp only [List.cons_beq_cons]
  rw [dg_eq (by omega) (by omega), dg_eq (by omega) (by omega), Bool.eq_iff_iff]
  simp; omega
theorem bl_four {m n : Nat} (hm : m < 10000) (hn : n < 10000) : Op.bytesLess (four m) (four n) = decide (m < n) := by
  unfold four
  rw [bl_app (two (m / 100)) (two (n / 100)) _ _ rfl, bl_two (by omega) (by omega), bl_two (by omega) (by omega), two_eq (by omega) (by omega), Bool.eq_iff_iff]
  simp; omega
theorem four_eq {m n : Nat} (hm : m < 10000) (hn : n < 10000) : (four m == four n) = decide (m = n) := by
  rw [Bool.eq_iff_iff]
  simp only [decide_eq_true_eq, beq_iff_eq]
  constructor
  · intro h
    have e1 : two (m / 100) = two (n / 100) := congrArg (List.take 2) h
    have e2 : two (m % 100) = two (n % 100) := congrArg (List.drop 2) h
    have h1 := two_eq (m := m / 100) (n := n / 100) (by omega) (by omega)
    have h2 := two_eq (m := m % 100) (n := n % 100) (by omega) (by omega)
    rw [e1] at h1; rw [e2] at h2
    simp at h1 h2; omega
  · rintro rfl; rfl
theorem bl_dtext {y m d a b c : Nat} (h1 : y < 10000) (h2 : m < 100) (h3 : d < 100) (k1 : a < 10000) (k2 : b < 100) (k3 : c < 100) :
    Op.bytesLess (dtext a b c) (dtext y m d) = decide (a < y ∨ (a = y ∧ (b < m ∨ (b = m ∧ c < d)))) := by
  unfold dtext
  rw [List.append_assoc, List.append_assoc, List.append_assoc, List.append_assoc, List.append_assoc, List.append_assoc, bl_app (four a) (four y) _ _ rfl, bl_four k1 h1, four_eq k1 h1]
  rw [bl_app [45] [45] _ _ rfl, show Op.bytesLess [45] [45] = false from by decide, bl_app (two b) (two m) _ _ rfl, bl_two k2 h2, two_eq k2 h2, bl_app [45] [45] _ _ rfl, show Op.bytesLess [45] [45] = false from by decide, bl_two k3 h3, Bool.eq_iff_iff]
  simp
theorem text_next {y m d a b c : Int} (h : valB y m d = true) (k : valB a b c = true) (e : num a b c = num y m d + 1) :
    Op.bytesLess (dateL a b c) (dateL y m d) = false ∧ ¬ dateL a b c = dateL y m d := by
  constructor
  · have i := valB_in h
    have j := valB_in k
    have dm := dim_le m (leapB y)
    have db := dim_le b (leapB a)
    have n1 := num_in h
    have n2 := num_in k
    rw [dateL_t h, dateL_t k, bl_dtext (by omega) (by omega) (by omega) (by omega) (by omega) (by omega)]
    simp only [decide_eq_false_iff_not]
    intro hl
    by_cases c1 : a < y
    · have : dby (a + 1) ≤ dby y := by unfold dby; omega
      omega
    · have ea : a = y := by omega
      subst ea
      unfold num at e
      by_cases c2 : b < m
      · have := cum_mono b m (leapB a) j.2.2.1 c2 (by omega); omega
      · have eb : b = m := by omega
        subst eb
        omega
  · intro he
    have r1 := read_imp h
    have r2 := read_imp k
    rw [he] at r2
    obtain ⟨e1, e2, e3⟩ : a = y ∧ b = m ∧ c = d := ⟨r2.1.symm.trans r1.1, r2.2.1.symm.trans r1.2.1, r2.2.2.symm.trans r1.2.2⟩
    rw [e1, e2, e3] at e
    omega
end Go.Proofs.YtpkjgepchincjaaDoor
