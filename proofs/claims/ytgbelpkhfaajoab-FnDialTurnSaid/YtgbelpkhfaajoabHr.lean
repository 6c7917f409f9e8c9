/- Lines of dials: plain mathematics of chapter 4. -/
import Derived.Test.YtgbelpkhfaajoabSin
import Derived.Test.YtgbelpkhfaajoabWay
namespace Go.Proofs.Ytgbelpkhfaajoab
set_option linter.unusedVariables false

def hrB (h : Int) : Bool := decide (-12 ≤ h ∧ h ≤ 11)
def laB (l : Int) : Bool := decide (1 ≤ l ∧ l ≤ 90)
def waB (l : Int) : Bool := decide (0 ≤ l ∧ l ≤ 89)
theorem hrB_iff {h : Int} : hrB h = true ↔ -12 ≤ h ∧ h ≤ 11 := by unfold hrB; simp
theorem laB_iff {l : Int} : laB l = true ↔ 1 ≤ l ∧ l ≤ 90 := by unfold laB; simp
theorem waB_iff {l : Int} : waB l = true ↔ 0 ≤ l ∧ l ≤ 89 := by unfold waB; simp
def sH (h : Int) : Int := sinI (15 * h)
def cH (h : Int) : Int := cosI (15 * h)
def lnE (l h : Int) : Int := sinI l * sinI (15 * h)
def lnN (h : Int) : Int := 1000 * cosI (15 * h)
def nxH (h : Int) : Int := (h + 13) % 24 - 12
/-- A fact of all hours, by looking. -/
theorem all24 {p : Int → Bool} (h : (List.range 24).all (fun k => p ((k : Int) - 12)) = true) (t : Int) (h0 : -12 ≤ t) (h1 : t ≤ 11) : p t = true := by
  have := List.all_eq_true.1 h (t + 12).toNat (by rw [List.mem_range]; omega)
  rwa [show (((t + 12).toNat : Nat) : Int) - 12 = t by omega] at this
theorem all90 {p : Int → Bool} (h : (List.range 90).all (fun k => p ((k : Int) + 1)) = true) (t : Int) (h0 : 1 ≤ t) (h1 : t ≤ 90) : p t = true := by
  have := List.all_eq_true.1 h (t - 1).toNat (by rw [List.mem_range]; omega)
  rwa [show (((t - 1).toNat : Nat) : Int) + 1 = t by omega] at this
theorem sin_pos (l : Int) (h0 : 1 ≤ l) (h1 : l ≤ 90) : 1 ≤ sinI l := of_decide_eq_true (all90 (p := fun l => decide (1 ≤ sinI l)) (by decide +kernel) l h0 h1)
theorem sin_neg (a : Int) : sinI (-a) = -sinI a := by
  have h1 := sin_back (180 + a)
  have h2 := sin_half a
  rw [show (180 : Int) - (180 + a) = -a by omega, show (180 : Int) + a = a + 180 by omega] at h1
  rw [h1, h2]
theorem sin_half' (a : Int) : sinI (a - 180) = -sinI a := by
  have h := sin_half (a - 180)
  rw [show a - 180 + 180 = a by omega] at h; omega
theorem cos_half' (a : Int) : cosI (a - 180) = -cosI a := by
  have h := cos_half (a - 180)
  rw [show a - 180 + 180 = a by omega] at h; omega
theorem cos_90 (l : Int) : sinI (90 - l) = cosI l := by
  have h := sin_back (90 + l)
  rw [show (180 : Int) - (90 + l) = 90 - l by omega] at h
  rw [h, cos_eq]
  unfold sinI; congr 1; omega
theorem prod_bd {a b A B : Int} (ha : -A ≤ a ∧ a ≤ A) (hb : -B ≤ b ∧ b ≤ B) (hA : 0 ≤ A) (hB : 0 ≤ B) : -(A * B) ≤ a * b ∧ a * b ≤ A * B := by
  have h1 : 0 ≤ (A - a) * (B - b) := Int.mul_nonneg (by omega) (by omega)
  have h2 : 0 ≤ (A + a) * (B + b) := Int.mul_nonneg (by omega) (by omega)
  have h3 : 0 ≤ (A - a) * (B + b) := Int.mul_nonneg (by omega) (by omega)
  have h4 : 0 ≤ (A + a) * (B - b) := Int.mul_nonneg (by omega) (by omega)
  have e1 : (A - a) * (B - b) = A * B - A * b - a * B + a * b := by grind
  have e2 : (A + a) * (B + b) = A * B + A * b + a * B + a * b := by grind
  have e3 : (A - a) * (B + b) = A * B + A * b - a * B - a * b := by grind
  have e4 : (A + a) * (B - b) = A * B - A * b + a * B - a * b := by grind
  omega
theorem ln_bd (l h : Int) : -1000000 ≤ lnE l h ∧ lnE l h ≤ 1000000 ∧ -1000000 ≤ lnN h ∧ lnN h ≤ 1000000 := by
  have h1 := prod_bd (A := 1000) (B := 1000) (sin_bd l) (sin_bd (15 * h)) (by omega) (by omega)
  have h2 := cos_bd (15 * h)
  unfold lnE lnN; omega
theorem lnE_half (l h : Int) : lnE l (h + 12) = -lnE l h := by
  unfold lnE; rw [show 15 * (h + 12) = 15 * h + 180 by omega, sin_half]; grind
theorem lnN_half (h : Int) : lnN (h + 12) = -lnN h := by
  unfold lnN; rw [show 15 * (h + 12) = 15 * h + 180 by omega, cos_half]; grind
theorem lnE_half' (l h : Int) : lnE l (h - 12) = -lnE l h := by
  unfold lnE; rw [show 15 * (h - 12) = 15 * h - 180 by omega, sin_half']; grind
theorem lnN_half' (h : Int) : lnN (h - 12) = -lnN h := by
  unfold lnN; rw [show 15 * (h - 12) = 15 * h - 180 by omega, cos_half']; grind
theorem lnE_neg (l h : Int) : lnE l (-h) = -lnE l h := by
  unfold lnE; rw [show 15 * (-h) = -(15 * h) by omega, sin_neg]; grind
theorem lnN_neg (h : Int) : lnN (-h) = lnN h := by
  unfold lnN; rw [show 15 * (-h) = -(15 * h) by omega, cos_neg]
theorem turn_neg {l h : Int} (h0 : -12 ≤ h) (h1 : h ≤ 11) : sH h * cH (h + 1) - cH h * sH (h + 1) < 0 := of_decide_eq_true (all24 (p := fun h => decide (sH h * cH (h + 1) - cH h * sH (h + 1) < 0)) (by decide +kernel) h h0 h1)
theorem lines_follow {l h : Int} (l0 : 1 ≤ l) (l1 : l ≤ 90) (h0 : -12 ≤ h) (h1 : h ≤ 11) : lnE l h * lnN (h + 1) - lnN h * lnE l (h + 1) < 0 := by
  have hp := sin_pos l l0 l1
  have ht := @turn_neg l h h0 h1
  have e : lnE l h * lnN (h + 1) - lnN h * lnE l (h + 1) = sinI l * (1000 * (sH h * cH (h + 1) - cH h * sH (h + 1))) := by unfold lnE lnN sH cH; grind
  rw [e]
  exact mul_pn (by omega) (by omega)
def onB (a b c d : Int) : Bool := decide (a * d - b * c = 0 ∧ 0 < a * c + b * d)
def PairFact (h k : Int) : Prop := h = k ∨ sH h * cH k - cH h * sH k ≠ 0 ∨ (sH h * sH k ≤ 0 ∧ cH h * cH k ≤ 0)
instance (h k : Int) : Decidable (PairFact h k) := by unfold PairFact; infer_instance
theorem pair_fact {h k : Int} (h0 : -12 ≤ h) (h1 : h ≤ 11) (k0 : -12 ≤ k) (k1 : k ≤ 11) : PairFact h k := by
  have := all24 (p := fun h => (List.range 24).all (fun k => decide (PairFact h ((k : Int) - 12)))) (by decide +kernel) h h0 h1
  exact of_decide_eq_true (all24 (p := fun k => decide (PairFact h k)) this k k0 k1)
theorem on_same {l h : Int} (l0 : 1 ≤ l) (l1 : l ≤ 90) : onB (lnE l h) (lnN h) (lnE l h) (lnN h) = true := by
  have hp := sin_pos l l0 l1
  have hn := sin_nn (15 * h)
  unfold onB
  rw [decide_eq_true_iff]
  refine ⟨by grind, sq_pos ?_⟩
  rintro ⟨e1, e2⟩
  unfold lnE at e1; unfold lnN at e2
  rcases Int.mul_eq_zero.1 e1 with e | e
  · omega
  · exact hn ⟨by omega, e⟩
theorem on_other {l h k : Int} (l0 : 1 ≤ l) (l1 : l ≤ 90) (h0 : -12 ≤ h) (h1 : h ≤ 11) (k0 : -12 ≤ k) (k1 : k ≤ 11) (hne : h ≠ k) : onB (lnE l h) (lnN h) (lnE l k) (lnN k) = false := by
  have hp := sin_pos l l0 l1
  unfold onB
  rw [decide_eq_false_iff_not]
  rintro ⟨e1, e2⟩
  have ec : lnE l h * lnN k - lnN h * lnE l k = sinI l * (1000 * (sH h * cH k - cH h * sH k)) := by unfold lnE lnN sH cH; grind
  have ed : lnE l h * lnE l k + lnN h * lnN k = (sinI l * sinI l) * (sH h * sH k) + 1000000 * (cH h * cH k) := by unfold lnE lnN sH cH; grind
  rcases pair_fact h0 h1 k0 k1 with e | e | ⟨e, e'⟩
  · exact hne e
  · rw [ec] at e1
    rcases Int.mul_eq_zero.1 e1 with e3 | e3 <;> omega
  · have := Int.mul_nonneg (sqn (sinI l)) (show 0 ≤ -(sH h * sH k) by omega)
    have e4 : (sinI l * sinI l) * -(sH h * sH k) = -((sinI l * sinI l) * (sH h * sH k)) := by grind
    omega
/-- The first hour for which something holds; 12 if there is none. -/
def HourIs (p : Int → Bool) (r : Int) : Prop := (-12 ≤ r ∧ r ≤ 11 ∧ p r = true ∧ ∀ j, -12 ≤ j → j < r → p j = false) ∨ (r = 12 ∧ ∀ j, -12 ≤ j → j ≤ 11 → p j = false)
theorem HourIs.unique {p : Int → Bool} {r s : Int} (h : HourIs p r) (k : HourIs p s) : r = s := by
  rcases h with ⟨a0, a1, a2, a3⟩ | ⟨rfl, a3⟩ <;> rcases k with ⟨b0, b1, b2, b3⟩ | ⟨rfl, b3⟩
  · rcases Int.lt_trichotomy r s with g | g | g
    · rw [b3 r a0 g] at a2; cases a2
    · exact g
    · rw [a3 s b0 g] at b2; cases b2
  · rw [b3 r a0 a1] at a2; cases a2
  · rw [a3 s b0 b1] at b2; cases b2
  · rfl
theorem HourIs.bd {p : Int → Bool} {r : Int} (h : HourIs p r) : -12 ≤ r ∧ r ≤ 12 := by
  rcases h with ⟨a0, a1, _⟩ | ⟨rfl, _⟩ <;> omega
theorem HourIs.none {p : Int → Bool} (h : ∀ j, p j = false) : HourIs p 12 := .inr ⟨rfl, fun j _ _ => h j⟩
theorem HourIs.holds {p : Int → Bool} {r : Int} (h : HourIs p r) (hr : r ≠ 12) : -12 ≤ r ∧ r ≤ 11 ∧ p r = true := by
  rcases h with ⟨a0, a1, a2, _⟩ | ⟨rfl, _⟩
  · exact ⟨a0, a1, a2⟩
  · exact absurd rfl hr
theorem HourIs.of_one {p : Int → Bool} {k r : Int} (h : HourIs p r) (k0 : -12 ≤ k) (k1 : k ≤ 11) (hk : p k = true) (hu : ∀ j, -12 ≤ j → j ≤ 11 → p j = true → j = k) : r = k := by
  rcases h with ⟨a0, a1, a2, _⟩ | ⟨rfl, a3⟩
  · exact hu r a0 a1 a2
  · rw [a3 k k0 k1] at hk; cases hk
/-- What HourOn asks of a line. -/
def hoP (l e n : Int) (h : Int) : Bool := laB l && (decide (-1000000 ≤ e ∧ e ≤ 1000000) && decide (-1000000 ≤ n ∧ n ≤ 1000000)) && onB (lnE l h) (lnN h) e n
theorem hoP_none {l e n : Int} (h : ¬ ((1 ≤ l ∧ l ≤ 90) ∧ (-1000000 ≤ e ∧ e ≤ 1000000) ∧ (-1000000 ≤ n ∧ n ≤ 1000000))) (j : Int) : hoP l e n j = false := by
  unfold hoP laB
  simp only [Bool.and_eq_false_iff, decide_eq_false_iff_not]
  by_cases a : 1 ≤ l ∧ l ≤ 90
  · by_cases b : -1000000 ≤ e ∧ e ≤ 1000000
    · by_cases c : -1000000 ≤ n ∧ n ≤ 1000000
      · exact absurd ⟨a, b, c⟩ h
      · exact .inl (.inr (.inr c))
    · exact .inl (.inr (.inl b))
  · exact .inl (.inl a)
theorem hoP_in {l e n j : Int} (l0 : 1 ≤ l) (l1 : l ≤ 90) (e0 : -1000000 ≤ e) (e1 : e ≤ 1000000) (n0 : -1000000 ≤ n) (n1 : n ≤ 1000000) : hoP l e n j = onB (lnE l j) (lnN j) e n := by
  unfold hoP laB; simp [l0, l1, e0, e1, n0, n1]
theorem ho_line {l k r : Int} (l0 : 1 ≤ l) (l1 : l ≤ 90) (k0 : -12 ≤ k) (k1 : k ≤ 11) (h : HourIs (hoP l (lnE l k) (lnN k)) r) : r = k := by
  have hb := ln_bd l k
  have e : ∀ j, hoP l (lnE l k) (lnN k) j = onB (lnE l j) (lnN j) (lnE l k) (lnN k) := fun j => hoP_in l0 l1 hb.1 hb.2.1 hb.2.2.1 hb.2.2.2
  refine h.of_one k0 k1 (by rw [e]; exact on_same l0 l1) (fun j j0 j1 hj => ?_)
  rw [e] at hj
  by_cases g : j = k
  · exact g
  · rw [on_other l0 l1 j0 j1 k0 k1 g] at hj; cases hj
/-- What HourBefore asks of a line and the next one. -/
def betB (l e n h : Int) : Bool := decide (lnE l h * n - lnN h * e < 0 ∧ e * lnN (nxH h) - n * lnE l (nxH h) < 0)
def hbP (l e n h : Int) : Bool := laB l && goB e n && (onB (lnE l h) (lnN h) e n || betB l e n h)
theorem hbP_none {l e n : Int} (h : ¬ ((1 ≤ l ∧ l ≤ 90) ∧ goB e n = true)) (j : Int) : hbP l e n j = false := by
  unfold hbP laB
  by_cases a : 1 ≤ l ∧ l ≤ 90
  · cases b : goB e n
    · simp
    · exact absurd ⟨a, b⟩ h
  · simp [a]
theorem hbP_in {l e n j : Int} (l0 : 1 ≤ l) (l1 : l ≤ 90) (hg : goB e n = true) : hbP l e n j = (onB (lnE l j) (lnN j) e n || betB l e n j) := by
  unfold hbP laB; simp [l0, l1, hg]
/-- The cross and the dot of a line's direction with a shadow, both stretched. -/
def qC (X Y h : Int) : Int := sH h * Y - cH h * X
def qD (X Y h : Int) : Int := sH h * X + cH h * Y
def QP (X Y h : Int) : Prop := (qC X Y h = 0 ∧ 0 < qD X Y h) ∨ (qC X Y h < 0 ∧ 0 < qC X Y (nxH h))
theorem tb0 : sH (-12) = 0 ∧ cH (-12) = -1000 ∧ nxH (-12) = -11 := by decide +kernel
theorem tb1 : sH (-11) = -260 ∧ cH (-11) = -966 ∧ nxH (-11) = -10 := by decide +kernel
theorem tb2 : sH (-10) = -500 ∧ cH (-10) = -865 ∧ nxH (-10) = -9 := by decide +kernel
theorem tb3 : sH (-9) = -706 ∧ cH (-9) = -706 ∧ nxH (-9) = -8 := by decide +kernel
theorem tb4 : sH (-8) = -865 ∧ cH (-8) = -500 ∧ nxH (-8) = -7 := by decide +kernel
theorem tb5 : sH (-7) = -966 ∧ cH (-7) = -260 ∧ nxH (-7) = -6 := by decide +kernel
theorem tb6 : sH (-6) = -1000 ∧ cH (-6) = 0 ∧ nxH (-6) = -5 := by decide +kernel
theorem tb7 : sH (-5) = -966 ∧ cH (-5) = 260 ∧ nxH (-5) = -4 := by decide +kernel
theorem tb8 : sH (-4) = -865 ∧ cH (-4) = 500 ∧ nxH (-4) = -3 := by decide +kernel
theorem tb9 : sH (-3) = -706 ∧ cH (-3) = 706 ∧ nxH (-3) = -2 := by decide +kernel
theorem tb10 : sH (-2) = -500 ∧ cH (-2) = 865 ∧ nxH (-2) = -1 := by decide +kernel
theorem tb11 : sH (-1) = -260 ∧ cH (-1) = 966 ∧ nxH (-1) = 0 := by decide +kernel
theorem tb12 : sH (0) = 0 ∧ cH (0) = 1000 ∧ nxH (0) = 1 := by decide +kernel
theorem tb13 : sH (1) = 260 ∧ cH (1) = 966 ∧ nxH (1) = 2 := by decide +kernel
theorem tb14 : sH (2) = 500 ∧ cH (2) = 865 ∧ nxH (2) = 3 := by decide +kernel
theorem tb15 : sH (3) = 706 ∧ cH (3) = 706 ∧ nxH (3) = 4 := by decide +kernel
theorem tb16 : sH (4) = 865 ∧ cH (4) = 500 ∧ nxH (4) = 5 := by decide +kernel
theorem tb17 : sH (5) = 966 ∧ cH (5) = 260 ∧ nxH (5) = 6 := by decide +kernel
theorem tb18 : sH (6) = 1000 ∧ cH (6) = 0 ∧ nxH (6) = 7 := by decide +kernel
theorem tb19 : sH (7) = 966 ∧ cH (7) = -260 ∧ nxH (7) = 8 := by decide +kernel
theorem tb20 : sH (8) = 865 ∧ cH (8) = -500 ∧ nxH (8) = 9 := by decide +kernel
theorem tb21 : sH (9) = 706 ∧ cH (9) = -706 ∧ nxH (9) = 10 := by decide +kernel
theorem tb22 : sH (10) = 500 ∧ cH (10) = -865 ∧ nxH (10) = 11 := by decide +kernel
theorem tb23 : sH (11) = 260 ∧ cH (11) = -966 ∧ nxH (11) = -12 := by decide +kernel
theorem QP_is (X Y h : Int) (s c s' c' : Int) (h1 : sH h = s) (h2 : cH h = c) (h3 : sH (nxH h) = s') (h4 : cH (nxH h) = c') : QP X Y h ↔ (s * Y - c * X = 0 ∧ 0 < s * X + c * Y) ∨ (s * Y - c * X < 0 ∧ 0 < s' * Y - c' * X) := by
  unfold QP qC qD; rw [h1, h2, h3, h4]
theorem qp0 (X Y : Int) : QP X Y (-12) ↔ (0 * Y - (-1000) * X = 0 ∧ 0 < 0 * X + (-1000) * Y) ∨ (0 * Y - (-1000) * X < 0 ∧ 0 < -260 * Y - (-966) * X) :=
  QP_is X Y (-12) _ _ _ _ tb0.1 tb0.2.1 (by rw [tb0.2.2]; exact tb1.1) (by rw [tb0.2.2]; exact tb1.2.1)
theorem qp1 (X Y : Int) : QP X Y (-11) ↔ (-260 * Y - (-966) * X = 0 ∧ 0 < -260 * X + (-966) * Y) ∨ (-260 * Y - (-966) * X < 0 ∧ 0 < -500 * Y - (-865) * X) :=
  QP_is X Y (-11) _ _ _ _ tb1.1 tb1.2.1 (by rw [tb1.2.2]; exact tb2.1) (by rw [tb1.2.2]; exact tb2.2.1)
theorem qp2 (X Y : Int) : QP X Y (-10) ↔ (-500 * Y - (-865) * X = 0 ∧ 0 < -500 * X + (-865) * Y) ∨ (-500 * Y - (-865) * X < 0 ∧ 0 < -706 * Y - (-706) * X) :=
  QP_is X Y (-10) _ _ _ _ tb2.1 tb2.2.1 (by rw [tb2.2.2]; exact tb3.1) (by rw [tb2.2.2]; exact tb3.2.1)
theorem qp3 (X Y : Int) : QP X Y (-9) ↔ (-706 * Y - (-706) * X = 0 ∧ 0 < -706 * X + (-706) * Y) ∨ (-706 * Y - (-706) * X < 0 ∧ 0 < -865 * Y - (-500) * X) :=
  QP_is X Y (-9) _ _ _ _ tb3.1 tb3.2.1 (by rw [tb3.2.2]; exact tb4.1) (by rw [tb3.2.2]; exact tb4.2.1)
theorem qp4 (X Y : Int) : QP X Y (-8) ↔ (-865 * Y - (-500) * X = 0 ∧ 0 < -865 * X + (-500) * Y) ∨ (-865 * Y - (-500) * X < 0 ∧ 0 < -966 * Y - (-260) * X) :=
  QP_is X Y (-8) _ _ _ _ tb4.1 tb4.2.1 (by rw [tb4.2.2]; exact tb5.1) (by rw [tb4.2.2]; exact tb5.2.1)
theorem qp5 (X Y : Int) : QP X Y (-7) ↔ (-966 * Y - (-260) * X = 0 ∧ 0 < -966 * X + (-260) * Y) ∨ (-966 * Y - (-260) * X < 0 ∧ 0 < -1000 * Y - (0) * X) :=
  QP_is X Y (-7) _ _ _ _ tb5.1 tb5.2.1 (by rw [tb5.2.2]; exact tb6.1) (by rw [tb5.2.2]; exact tb6.2.1)
theorem qp6 (X Y : Int) : QP X Y (-6) ↔ (-1000 * Y - (0) * X = 0 ∧ 0 < -1000 * X + (0) * Y) ∨ (-1000 * Y - (0) * X < 0 ∧ 0 < -966 * Y - (260) * X) :=
  QP_is X Y (-6) _ _ _ _ tb6.1 tb6.2.1 (by rw [tb6.2.2]; exact tb7.1) (by rw [tb6.2.2]; exact tb7.2.1)
theorem qp7 (X Y : Int) : QP X Y (-5) ↔ (-966 * Y - (260) * X = 0 ∧ 0 < -966 * X + (260) * Y) ∨ (-966 * Y - (260) * X < 0 ∧ 0 < -865 * Y - (500) * X) :=
  QP_is X Y (-5) _ _ _ _ tb7.1 tb7.2.1 (by rw [tb7.2.2]; exact tb8.1) (by rw [tb7.2.2]; exact tb8.2.1)
theorem qp8 (X Y : Int) : QP X Y (-4) ↔ (-865 * Y - (500) * X = 0 ∧ 0 < -865 * X + (500) * Y) ∨ (-865 * Y - (500) * X < 0 ∧ 0 < -706 * Y - (706) * X) :=
  QP_is X Y (-4) _ _ _ _ tb8.1 tb8.2.1 (by rw [tb8.2.2]; exact tb9.1) (by rw [tb8.2.2]; exact tb9.2.1)
theorem qp9 (X Y : Int) : QP X Y (-3) ↔ (-706 * Y - (706) * X = 0 ∧ 0 < -706 * X + (706) * Y) ∨ (-706 * Y - (706) * X < 0 ∧ 0 < -500 * Y - (865) * X) :=
  QP_is X Y (-3) _ _ _ _ tb9.1 tb9.2.1 (by rw [tb9.2.2]; exact tb10.1) (by rw [tb9.2.2]; exact tb10.2.1)
theorem qp10 (X Y : Int) : QP X Y (-2) ↔ (-500 * Y - (865) * X = 0 ∧ 0 < -500 * X + (865) * Y) ∨ (-500 * Y - (865) * X < 0 ∧ 0 < -260 * Y - (966) * X) :=
  QP_is X Y (-2) _ _ _ _ tb10.1 tb10.2.1 (by rw [tb10.2.2]; exact tb11.1) (by rw [tb10.2.2]; exact tb11.2.1)
theorem qp11 (X Y : Int) : QP X Y (-1) ↔ (-260 * Y - (966) * X = 0 ∧ 0 < -260 * X + (966) * Y) ∨ (-260 * Y - (966) * X < 0 ∧ 0 < 0 * Y - (1000) * X) :=
  QP_is X Y (-1) _ _ _ _ tb11.1 tb11.2.1 (by rw [tb11.2.2]; exact tb12.1) (by rw [tb11.2.2]; exact tb12.2.1)
theorem qp12 (X Y : Int) : QP X Y (0) ↔ (0 * Y - (1000) * X = 0 ∧ 0 < 0 * X + (1000) * Y) ∨ (0 * Y - (1000) * X < 0 ∧ 0 < 260 * Y - (966) * X) :=
  QP_is X Y (0) _ _ _ _ tb12.1 tb12.2.1 (by rw [tb12.2.2]; exact tb13.1) (by rw [tb12.2.2]; exact tb13.2.1)
theorem qp13 (X Y : Int) : QP X Y (1) ↔ (260 * Y - (966) * X = 0 ∧ 0 < 260 * X + (966) * Y) ∨ (260 * Y - (966) * X < 0 ∧ 0 < 500 * Y - (865) * X) :=
  QP_is X Y (1) _ _ _ _ tb13.1 tb13.2.1 (by rw [tb13.2.2]; exact tb14.1) (by rw [tb13.2.2]; exact tb14.2.1)
theorem qp14 (X Y : Int) : QP X Y (2) ↔ (500 * Y - (865) * X = 0 ∧ 0 < 500 * X + (865) * Y) ∨ (500 * Y - (865) * X < 0 ∧ 0 < 706 * Y - (706) * X) :=
  QP_is X Y (2) _ _ _ _ tb14.1 tb14.2.1 (by rw [tb14.2.2]; exact tb15.1) (by rw [tb14.2.2]; exact tb15.2.1)
theorem qp15 (X Y : Int) : QP X Y (3) ↔ (706 * Y - (706) * X = 0 ∧ 0 < 706 * X + (706) * Y) ∨ (706 * Y - (706) * X < 0 ∧ 0 < 865 * Y - (500) * X) :=
  QP_is X Y (3) _ _ _ _ tb15.1 tb15.2.1 (by rw [tb15.2.2]; exact tb16.1) (by rw [tb15.2.2]; exact tb16.2.1)
theorem qp16 (X Y : Int) : QP X Y (4) ↔ (865 * Y - (500) * X = 0 ∧ 0 < 865 * X + (500) * Y) ∨ (865 * Y - (500) * X < 0 ∧ 0 < 966 * Y - (260) * X) :=
  QP_is X Y (4) _ _ _ _ tb16.1 tb16.2.1 (by rw [tb16.2.2]; exact tb17.1) (by rw [tb16.2.2]; exact tb17.2.1)
theorem qp17 (X Y : Int) : QP X Y (5) ↔ (966 * Y - (260) * X = 0 ∧ 0 < 966 * X + (260) * Y) ∨ (966 * Y - (260) * X < 0 ∧ 0 < 1000 * Y - (0) * X) :=
  QP_is X Y (5) _ _ _ _ tb17.1 tb17.2.1 (by rw [tb17.2.2]; exact tb18.1) (by rw [tb17.2.2]; exact tb18.2.1)
theorem qp18 (X Y : Int) : QP X Y (6) ↔ (1000 * Y - (0) * X = 0 ∧ 0 < 1000 * X + (0) * Y) ∨ (1000 * Y - (0) * X < 0 ∧ 0 < 966 * Y - (-260) * X) :=
  QP_is X Y (6) _ _ _ _ tb18.1 tb18.2.1 (by rw [tb18.2.2]; exact tb19.1) (by rw [tb18.2.2]; exact tb19.2.1)
theorem qp19 (X Y : Int) : QP X Y (7) ↔ (966 * Y - (-260) * X = 0 ∧ 0 < 966 * X + (-260) * Y) ∨ (966 * Y - (-260) * X < 0 ∧ 0 < 865 * Y - (-500) * X) :=
  QP_is X Y (7) _ _ _ _ tb19.1 tb19.2.1 (by rw [tb19.2.2]; exact tb20.1) (by rw [tb19.2.2]; exact tb20.2.1)
theorem qp20 (X Y : Int) : QP X Y (8) ↔ (865 * Y - (-500) * X = 0 ∧ 0 < 865 * X + (-500) * Y) ∨ (865 * Y - (-500) * X < 0 ∧ 0 < 706 * Y - (-706) * X) :=
  QP_is X Y (8) _ _ _ _ tb20.1 tb20.2.1 (by rw [tb20.2.2]; exact tb21.1) (by rw [tb20.2.2]; exact tb21.2.1)
theorem qp21 (X Y : Int) : QP X Y (9) ↔ (706 * Y - (-706) * X = 0 ∧ 0 < 706 * X + (-706) * Y) ∨ (706 * Y - (-706) * X < 0 ∧ 0 < 500 * Y - (-865) * X) :=
  QP_is X Y (9) _ _ _ _ tb21.1 tb21.2.1 (by rw [tb21.2.2]; exact tb22.1) (by rw [tb21.2.2]; exact tb22.2.1)
theorem qp22 (X Y : Int) : QP X Y (10) ↔ (500 * Y - (-865) * X = 0 ∧ 0 < 500 * X + (-865) * Y) ∨ (500 * Y - (-865) * X < 0 ∧ 0 < 260 * Y - (-966) * X) :=
  QP_is X Y (10) _ _ _ _ tb22.1 tb22.2.1 (by rw [tb22.2.2]; exact tb23.1) (by rw [tb22.2.2]; exact tb23.2.1)
theorem qp23 (X Y : Int) : QP X Y (11) ↔ (260 * Y - (-966) * X = 0 ∧ 0 < 260 * X + (-966) * Y) ∨ (260 * Y - (-966) * X < 0 ∧ 0 < 0 * Y - (-1000) * X) :=
  QP_is X Y (11) _ _ _ _ tb23.1 tb23.2.1 (by rw [tb23.2.2]; exact tb0.1) (by rw [tb23.2.2]; exact tb0.2.1)
set_option maxHeartbeats 4000000 in
/-- Every shadow has an hour. -/
theorem qp_some (X Y : Int) (h : ¬ (X = 0 ∧ Y = 0)) : ∃ k : Int, -12 ≤ k ∧ k ≤ 11 ∧ QP X Y k := by
  rcases Int.lt_trichotomy X 0 with hx | hx | hx
  ·
    by_cases g1 : -260 * Y - (-966) * X < 0
    rotate_left
    · by_cases e1 : -260 * Y - (-966) * X = 0
      · exact ⟨-11, by omega, by omega, (qp1 X Y).2 (.inl ⟨e1, by omega⟩)⟩
      · exact ⟨-12, by omega, by omega, (qp0 X Y).2 (.inr ⟨by omega, by omega⟩)⟩
    by_cases g2 : -500 * Y - (-865) * X < 0
    rotate_left
    · by_cases e2 : -500 * Y - (-865) * X = 0
      · exact ⟨-10, by omega, by omega, (qp2 X Y).2 (.inl ⟨e2, by omega⟩)⟩
      · exact ⟨-11, by omega, by omega, (qp1 X Y).2 (.inr ⟨by omega, by omega⟩)⟩
    by_cases g3 : -706 * Y - (-706) * X < 0
    rotate_left
    · by_cases e3 : -706 * Y - (-706) * X = 0
      · exact ⟨-9, by omega, by omega, (qp3 X Y).2 (.inl ⟨e3, by omega⟩)⟩
      · exact ⟨-10, by omega, by omega, (qp2 X Y).2 (.inr ⟨by omega, by omega⟩)⟩
    by_cases g4 : -865 * Y - (-500) * X < 0
    rotate_left
    · by_cases e4 : -865 * Y - (-500) * X = 0
      · exact ⟨-8, by omega, by omega, (qp4 X Y).2 (.inl ⟨e4, by omega⟩)⟩
      · exact ⟨-9, by omega, by omega, (qp3 X Y).2 (.inr ⟨by omega, by omega⟩)⟩
    by_cases g5 : -966 * Y - (-260) * X < 0
    rotate_left
    · by_cases e5 : -966 * Y - (-260) * X = 0
      · exact ⟨-7, by omega, by omega, (qp5 X Y).2 (.inl ⟨e5, by omega⟩)⟩
      · exact ⟨-8, by omega, by omega, (qp4 X Y).2 (.inr ⟨by omega, by omega⟩)⟩
    by_cases g6 : -1000 * Y - (0) * X < 0
    rotate_left
    · by_cases e6 : -1000 * Y - (0) * X = 0
      · exact ⟨-6, by omega, by omega, (qp6 X Y).2 (.inl ⟨e6, by omega⟩)⟩
      · exact ⟨-7, by omega, by omega, (qp5 X Y).2 (.inr ⟨by omega, by omega⟩)⟩
    by_cases g7 : -966 * Y - (260) * X < 0
    rotate_left
    · by_cases e7 : -966 * Y - (260) * X = 0
      · exact ⟨-5, by omega, by omega, (qp7 X Y).2 (.inl ⟨e7, by omega⟩)⟩
      · exact ⟨-6, by omega, by omega, (qp6 X Y).2 (.inr ⟨by omega, by omega⟩)⟩
    by_cases g8 : -865 * Y - (500) * X < 0
    rotate_left
    · by_cases e8 : -865 * Y - (500) * X = 0
      · exact ⟨-4, by omega, by omega, (qp8 X Y).2 (.inl ⟨e8, by omega⟩)⟩
      · exact ⟨-5, by omega, by omega, (qp7 X Y).2 (.inr ⟨by omega, by omega⟩)⟩
    by_cases g9 : -706 * Y - (706) * X < 0
    rotate_left
    · by_cases e9 : -706 * Y - (706) * X = 0
      · exact ⟨-3, by omega, by omega, (qp9 X Y).2 (.inl ⟨e9, by omega⟩)⟩
      · exact ⟨-4, by omega, by omega, (qp8 X Y).2 (.inr ⟨by omega, by omega⟩)⟩
    by_cases g10 : -500 * Y - (865) * X < 0
    rotate_left
    · by_cases e10 : -500 * Y - (865) * X = 0
      · exact ⟨-2, by omega, by omega, (qp10 X Y).2 (.inl ⟨e10, by omega⟩)⟩
      · exact ⟨-3, by omega, by omega, (qp9 X Y).2 (.inr ⟨by omega, by omega⟩)⟩
    by_cases g11 : -260 * Y - (966) * X < 0
    rotate_left
    · by_cases e11 : -260 * Y - (966) * X = 0
      · exact ⟨-1, by omega, by omega, (qp11 X Y).2 (.inl ⟨e11, by omega⟩)⟩
      · exact ⟨-2, by omega, by omega, (qp10 X Y).2 (.inr ⟨by omega, by omega⟩)⟩
    by_cases g12 : 0 * Y - (1000) * X < 0
    · exfalso; omega
    · by_cases e12 : 0 * Y - (1000) * X = 0
      · exact ⟨0, by omega, by omega, (qp12 X Y).2 (.inl ⟨e12, by omega⟩)⟩
      · exact ⟨-1, by omega, by omega, (qp11 X Y).2 (.inr ⟨by omega, by omega⟩)⟩
  · subst hx
    by_cases hy : 0 < Y
    · exact ⟨0, by omega, by omega, (qp12 0 Y).2 (.inl ⟨by omega, by omega⟩)⟩
    · exact ⟨-12, by omega, by omega, (qp0 0 Y).2 (.inl ⟨by omega, by omega⟩)⟩
  ·
    by_cases g1 : 260 * Y - (966) * X < 0
    rotate_left
    · by_cases e1 : 260 * Y - (966) * X = 0
      · exact ⟨1, by omega, by omega, (qp13 X Y).2 (.inl ⟨e1, by omega⟩)⟩
      · exact ⟨0, by omega, by omega, (qp12 X Y).2 (.inr ⟨by omega, by omega⟩)⟩
    by_cases g2 : 500 * Y - (865) * X < 0
    rotate_left
    · by_cases e2 : 500 * Y - (865) * X = 0
      · exact ⟨2, by omega, by omega, (qp14 X Y).2 (.inl ⟨e2, by omega⟩)⟩
      · exact ⟨1, by omega, by omega, (qp13 X Y).2 (.inr ⟨by omega, by omega⟩)⟩
    by_cases g3 : 706 * Y - (706) * X < 0
    rotate_left
    · by_cases e3 : 706 * Y - (706) * X = 0
      · exact ⟨3, by omega, by omega, (qp15 X Y).2 (.inl ⟨e3, by omega⟩)⟩
      · exact ⟨2, by omega, by omega, (qp14 X Y).2 (.inr ⟨by omega, by omega⟩)⟩
    by_cases g4 : 865 * Y - (500) * X < 0
    rotate_left
    · by_cases e4 : 865 * Y - (500) * X = 0
      · exact ⟨4, by omega, by omega, (qp16 X Y).2 (.inl ⟨e4, by omega⟩)⟩
      · exact ⟨3, by omega, by omega, (qp15 X Y).2 (.inr ⟨by omega, by omega⟩)⟩
    by_cases g5 : 966 * Y - (260) * X < 0
    rotate_left
    · by_cases e5 : 966 * Y - (260) * X = 0
      · exact ⟨5, by omega, by omega, (qp17 X Y).2 (.inl ⟨e5, by omega⟩)⟩
      · exact ⟨4, by omega, by omega, (qp16 X Y).2 (.inr ⟨by omega, by omega⟩)⟩
    by_cases g6 : 1000 * Y - (0) * X < 0
    rotate_left
    · by_cases e6 : 1000 * Y - (0) * X = 0
      · exact ⟨6, by omega, by omega, (qp18 X Y).2 (.inl ⟨e6, by omega⟩)⟩
      · exact ⟨5, by omega, by omega, (qp17 X Y).2 (.inr ⟨by omega, by omega⟩)⟩
    by_cases g7 : 966 * Y - (-260) * X < 0
    rotate_left
    · by_cases e7 : 966 * Y - (-260) * X = 0
      · exact ⟨7, by omega, by omega, (qp19 X Y).2 (.inl ⟨e7, by omega⟩)⟩
      · exact ⟨6, by omega, by omega, (qp18 X Y).2 (.inr ⟨by omega, by omega⟩)⟩
    by_cases g8 : 865 * Y - (-500) * X < 0
    rotate_left
    · by_cases e8 : 865 * Y - (-500) * X = 0
      · exact ⟨8, by omega, by omega, (qp20 X Y).2 (.inl ⟨e8, by omega⟩)⟩
      · exact ⟨7, by omega, by omega, (qp19 X Y).2 (.inr ⟨by omega, by omega⟩)⟩
    by_cases g9 : 706 * Y - (-706) * X < 0
    rotate_left
    · by_cases e9 : 706 * Y - (-706) * X = 0
      · exact ⟨9, by omega, by omega, (qp21 X Y).2 (.inl ⟨e9, by omega⟩)⟩
      · exact ⟨8, by omega, by omega, (qp20 X Y).2 (.inr ⟨by omega, by omega⟩)⟩
    by_cases g10 : 500 * Y - (-865) * X < 0
    rotate_left
    · by_cases e10 : 500 * Y - (-865) * X = 0
      · exact ⟨10, by omega, by omega, (qp22 X Y).2 (.inl ⟨e10, by omega⟩)⟩
      · exact ⟨9, by omega, by omega, (qp21 X Y).2 (.inr ⟨by omega, by omega⟩)⟩
    by_cases g11 : 260 * Y - (-966) * X < 0
    rotate_left
    · by_cases e11 : 260 * Y - (-966) * X = 0
      · exact ⟨11, by omega, by omega, (qp23 X Y).2 (.inl ⟨e11, by omega⟩)⟩
      · exact ⟨10, by omega, by omega, (qp22 X Y).2 (.inr ⟨by omega, by omega⟩)⟩
    by_cases g12 : 0 * Y - (-1000) * X < 0
    · exfalso; omega
    · by_cases e12 : 0 * Y - (-1000) * X = 0
      · exact ⟨-12, by omega, by omega, (qp0 X Y).2 (.inl ⟨e12, by omega⟩)⟩
      · exact ⟨11, by omega, by omega, (qp23 X Y).2 (.inr ⟨by omega, by omega⟩)⟩
set_option maxHeartbeats 4000000 in
theorem qu0 (X Y j : Int) (j0 : -12 ≤ j) (j1 : j ≤ 11) (hq : QP X Y (-12)) (hj : QP X Y j) : j = -12 := by
  rw [qp0] at hq
  have hc : j = -12 ∨ j = -11 ∨ j = -10 ∨ j = -9 ∨ j = -8 ∨ j = -7 ∨ j = -6 ∨ j = -5 ∨ j = -4 ∨ j = -3 ∨ j = -2 ∨ j = -1 ∨ j = 0 ∨ j = 1 ∨ j = 2 ∨ j = 3 ∨ j = 4 ∨ j = 5 ∨ j = 6 ∨ j = 7 ∨ j = 8 ∨ j = 9 ∨ j = 10 ∨ j = 11 := by omega
  rcases hc with rfl | rfl | rfl | rfl | rfl | rfl | rfl | rfl | rfl | rfl | rfl | rfl | rfl | rfl | rfl | rfl | rfl | rfl | rfl | rfl | rfl | rfl | rfl | rfl
  · rfl
  · rw [qp1] at hj; exfalso; omega
  · rw [qp2] at hj; exfalso; omega
  · rw [qp3] at hj; exfalso; omega
  · rw [qp4] at hj; exfalso; omega
  · rw [qp5] at hj; exfalso; omega
  · rw [qp6] at hj; exfalso; omega
  · rw [qp7] at hj; exfalso; omega
  · rw [qp8] at hj; exfalso; omega
  · rw [qp9] at hj; exfalso; omega
  · rw [qp10] at hj; exfalso; omega
  · rw [qp11] at hj; exfalso; omega
  · rw [qp12] at hj; exfalso; omega
  · rw [qp13] at hj; exfalso; omega
  · rw [qp14] at hj; exfalso; omega
  · rw [qp15] at hj; exfalso; omega
  · rw [qp16] at hj; exfalso; omega
  · rw [qp17] at hj; exfalso; omega
  · rw [qp18] at hj; exfalso; omega
  · rw [qp19] at hj; exfalso; omega
  · rw [qp20] at hj; exfalso; omega
  · rw [qp21] at hj; exfalso; omega
  · rw [qp22] at hj; exfalso; omega
  · rw [qp23] at hj; exfalso; omega
set_option maxHeartbeats 4000000 in
theorem qu1 (X Y j : Int) (j0 : -12 ≤ j) (j1 : j ≤ 11) (hq : QP X Y (-11)) (hj : QP X Y j) : j = -11 := by
  rw [qp1] at hq
  have hc : j = -12 ∨ j = -11 ∨ j = -10 ∨ j = -9 ∨ j = -8 ∨ j = -7 ∨ j = -6 ∨ j = -5 ∨ j = -4 ∨ j = -3 ∨ j = -2 ∨ j = -1 ∨ j = 0 ∨ j = 1 ∨ j = 2 ∨ j = 3 ∨ j = 4 ∨ j = 5 ∨ j = 6 ∨ j = 7 ∨ j = 8 ∨ j = 9 ∨ j = 10 ∨ j = 11 := by omega
  rcases hc with rfl | rfl | rfl | rfl | rfl | rfl | rfl | rfl | rfl | rfl | rfl | rfl | rfl | rfl | rfl | rfl | rfl | rfl | rfl | rfl | rfl | rfl | rfl | rfl
  · rw [qp0] at hj; exfalso; omega
  · rfl
  · rw [qp2] at hj; exfalso; omega
  · rw [qp3] at hj; exfalso; omega
  · rw [qp4] at hj; exfalso; omega
  · rw [qp5] at hj; exfalso; omega
  · rw [qp6] at hj; exfalso; omega
  · rw [qp7] at hj; exfalso; omega
  · rw [qp8] at hj; exfalso; omega
  · rw [qp9] at hj; exfalso; omega
  · rw [qp10] at hj; exfalso; omega
  · rw [qp11] at hj; exfalso; omega
  · rw [qp12] at hj; exfalso; omega
  · rw [qp13] at hj; exfalso; omega
  · rw [qp14] at hj; exfalso; omega
  · rw [qp15] at hj; exfalso; omega
  · rw [qp16] at hj; exfalso; omega
  · rw [qp17] at hj; exfalso; omega
  · rw [qp18] at hj; exfalso; omega
  · rw [qp19] at hj; exfalso; omega
  · rw [qp20] at hj; exfalso; omega
  · rw [qp21] at hj; exfalso; omega
  · rw [qp22] at hj; exfalso; omega
  · rw [qp23] at hj; exfalso; omega
set_option maxHeartbeats 4000000 in
theorem qu2 (X Y j : Int) (j0 : -12 ≤ j) (j1 : j ≤ 11) (hq : QP X Y (-10)) (hj : QP X Y j) : j = -10 := by
  rw [qp2] at hq
  have hc : j = -12 ∨ j = -11 ∨ j = -10 ∨ j = -9 ∨ j = -8 ∨ j = -7 ∨ j = -6 ∨ j = -5 ∨ j = -4 ∨ j = -3 ∨ j = -2 ∨ j = -1 ∨ j = 0 ∨ j = 1 ∨ j = 2 ∨ j = 3 ∨ j = 4 ∨ j = 5 ∨ j = 6 ∨ j = 7 ∨ j = 8 ∨ j = 9 ∨ j = 10 ∨ j = 11 := by omega
  rcases hc with rfl | rfl | rfl | rfl | rfl | rfl | rfl | rfl | rfl | rfl | rfl | rfl | rfl | rfl | rfl | rfl | rfl | rfl | rfl | rfl | rfl | rfl | rfl | rfl
  · rw [qp0] at hj; exfalso; omega
  · rw [qp1] at hj; exfalso; omega
  · rfl
  · rw [qp3] at hj; exfalso; omega
  · rw [qp4] at hj; exfalso; omega
  · rw [qp5] at hj; exfalso; omega
  · rw [qp6] at hj; exfalso; omega
  · rw [qp7] at hj; exfalso; omega
  · rw [qp8] at hj; exfalso; omega
  · rw [qp9] at hj; exfalso; omega
  · rw [qp10] at hj; exfalso; omega
  · rw [qp11] at hj; exfalso; omega
  · rw [qp12] at hj; exfalso; omega
  · rw [qp13] at hj; exfalso; omega
  · rw [qp14] at hj; exfalso; omega
  · rw [qp15] at hj; exfalso; omega
  · rw [qp16] at hj; exfalso; omega
  · rw [qp17] at hj; exfalso; omega
  · rw [qp18] at hj; exfalso; omega
  · rw [qp19] at hj; exfalso; omega
  · rw [qp20] at hj; exfalso; omega
  · rw [qp21] at hj; exfalso; omega
  · rw [qp22] at hj; exfalso; omega
  · rw [qp23] at hj; exfalso; omega
set_option maxHeartbeats 4000000 in
theorem qu3 (X Y j : Int) (j0 : -12 ≤ j) (j1 : j ≤ 11) (hq : QP X Y (-9)) (hj : QP X Y j) : j = -9 := by
  rw [qp3] at hq
  have hc : j = -12 ∨ j = -11 ∨ j = -10 ∨ j = -9 ∨ j = -8 ∨ j = -7 ∨ j = -6 ∨ j = -5 ∨ j = -4 ∨ j = -3 ∨ j = -2 ∨ j = -1 ∨ j = 0 ∨ j = 1 ∨ j = 2 ∨ j = 3 ∨ j = 4 ∨ j = 5 ∨ j = 6 ∨ j = 7 ∨ j = 8 ∨ j = 9 ∨ j = 10 ∨ j = 11 := by omega
  rcases hc with rfl | rfl | rfl | rfl | rfl | rfl | rfl | rfl | rfl | rfl | rfl | rfl | rfl | rfl | rfl | rfl | rfl | rfl | rfl | rfl | rfl | rfl | rfl | rfl
  · rw [qp0] at hj; exfalso; omega
  · rw [qp1] at hj; exfalso; omega
  · rw [qp2] at hj; exfalso; omega
  · rfl
  · rw [qp4] at hj; exfalso; omega
  · rw [qp5] at hj; exfalso; omega
  · rw [qp6] at hj; exfalso; omega
  · rw [qp7] at hj; exfalso; omega
  · rw [qp8] at hj; exfalso; omega
  · rw [qp9] at hj; exfalso; omega
  · rw [qp10] at hj; exfalso; omega
  · rw [qp11] at hj; exfalso; omega
  · rw [qp12] at hj; exfalso; omega
  · rw [qp13] at hj; exfalso; omega
  · rw [qp14] at hj; exfalso; omega
  · rw [qp15] at hj; exfalso; omega
  · rw [qp16] at hj; exfalso; omega
  · rw [qp17] at hj; exfalso; omega
  · rw [qp18] at hj; exfalso; omega
  · rw [qp19] at hj; exfalso; omega
  · rw [qp20] at hj; exfalso; omega
  · rw [qp21] at hj; exfalso; omega
  · rw [qp22] at hj; exfalso; omega
  · rw [qp23] at hj; exfalso; omega
set_option maxHeartbeats 4000000 in
theorem qu4 (X Y j : Int) (j0 : -12 ≤ j) (j1 : j ≤ 11) (hq : QP X Y (-8)) (hj : QP X Y j) : j = -8 := by
  rw [qp4] at hq
  have hc : j = -12 ∨ j = -11 ∨ j = -10 ∨ j = -9 ∨ j = -8 ∨ j = -7 ∨ j = -6 ∨ j = -5 ∨ j = -4 ∨ j = -3 ∨ j = -2 ∨ j = -1 ∨ j = 0 ∨ j = 1 ∨ j = 2 ∨ j = 3 ∨ j = 4 ∨ j = 5 ∨ j = 6 ∨ j = 7 ∨ j = 8 ∨ j = 9 ∨ j = 10 ∨ j = 11 := by omega
  rcases hc with rfl | rfl | rfl | rfl | rfl | rfl | rfl | rfl | rfl | rfl | rfl | rfl | rfl | rfl | rfl | rfl | rfl | rfl | rfl | rfl | rfl | rfl | rfl | rfl
  · rw [qp0] at hj; exfalso; omega
  · rw [qp1] at hj; exfalso; omega
  · rw [qp2] at hj; exfalso; omega
  · rw [qp3] at hj; exfalso; omega
  · rfl
  · rw [qp5] at hj; exfalso; omega
  · rw [qp6] at hj; exfalso; omega
  · rw [qp7] at hj; exfalso; omega
  · rw [qp8] at hj; exfalso; omega
  · rw [qp9] at hj; exfalso; omega
  · rw [qp10] at hj; exfalso; omega
  · rw [qp11] at hj; exfalso; omega
  · rw [qp12] at hj; exfalso; omega
  · rw [qp13] at hj; exfalso; omega
  · rw [qp14] at hj; exfalso; omega
  · rw [qp15] at hj; exfalso; omega
  · rw [qp16] at hj; exfalso; omega
  · rw [qp17] at hj; exfalso; omega
  · rw [qp18] at hj; exfalso; omega
  · rw [qp19] at hj; exfalso; omega
  · rw [qp20] at hj; exfalso; omega
  · rw [qp21] at hj; exfalso; omega
  · rw [qp22] at hj; exfalso; omega
  · rw [qp23] at hj; exfalso; omega
set_option maxHeartbeats 4000000 in
theorem qu5 (X Y j : Int) (j0 : -12 ≤ j) (j1 : j ≤ 11) (hq : QP X Y (-7)) (hj : QP X Y j) : j = -7 := by
  rw [qp5] at hq
  have hc : j = -12 ∨ j = -11 ∨ j = -10 ∨ j = -9 ∨ j = -8 ∨ j = -7 ∨ j = -6 ∨ j = -5 ∨ j = -4 ∨ j = -3 ∨ j = -2 ∨ j = -1 ∨ j = 0 ∨ j = 1 ∨ j = 2 ∨ j = 3 ∨ j = 4 ∨ j = 5 ∨ j = 6 ∨ j = 7 ∨ j = 8 ∨ j = 9 ∨ j = 10 ∨ j = 11 := by omega
  rcases hc with rfl | rfl | rfl | rfl | rfl | rfl | rfl | rfl | rfl | rfl | rfl | rfl | rfl | rfl | rfl | rfl | rfl | rfl | rfl | rfl | rfl | rfl | rfl | rfl
  · rw [qp0] at hj; exfalso; omega
  · rw [qp1] at hj; exfalso; omega
  · rw [qp2] at hj; exfalso; omega
  · rw [qp3] at hj; exfalso; omega
  · rw [qp4] at hj; exfalso; omega
  · rfl
  · rw [qp6] at hj; exfalso; omega
  · rw [qp7] at hj; exfalso; omega
  · rw [qp8] at hj; exfalso; omega
  · rw [qp9] at hj; exfalso; omega
  · rw [qp10] at hj; exfalso; omega
  · rw [qp11] at hj; exfalso; omega
  · rw [qp12] at hj; exfalso; omega
  · rw [qp13] at hj; exfalso; omega
  · rw [qp14] at hj; exfalso; omega
  · rw [qp15] at hj; exfalso; omega
  · rw [qp16] at hj; exfalso; omega
  · rw [qp17] at hj; exfalso; omega
  · rw [qp18] at hj; exfalso; omega
  · rw [qp19] at hj; exfalso; omega
  · rw [qp20] at hj; exfalso; omega
  · rw [qp21] at hj; exfalso; omega
  · rw [qp22] at hj; exfalso; omega
  · rw [qp23] at hj; exfalso; omega
set_option maxHeartbeats 4000000 in
theorem qu6 (X Y j : Int) (j0 : -12 ≤ j) (j1 : j ≤ 11) (hq : QP X Y (-6)) (hj : QP X Y j) : j = -6 := by
  rw [qp6] at hq
  have hc : j = -12 ∨ j = -11 ∨ j = -10 ∨ j = -9 ∨ j = -8 ∨ j = -7 ∨ j = -6 ∨ j = -5 ∨ j = -4 ∨ j = -3 ∨ j = -2 ∨ j = -1 ∨ j = 0 ∨ j = 1 ∨ j = 2 ∨ j = 3 ∨ j = 4 ∨ j = 5 ∨ j = 6 ∨ j = 7 ∨ j = 8 ∨ j = 9 ∨ j = 10 ∨ j = 11 := by omega
  rcases hc with rfl | rfl | rfl | rfl | rfl | rfl | rfl | rfl | rfl | rfl | rfl | rfl | rfl | rfl | rfl | rfl | rfl | rfl | rfl | rfl | rfl | rfl | rfl | rfl
  · rw [qp0] at hj; exfalso; omega
  · rw [qp1] at hj; exfalso; omega
  · rw [qp2] at hj; exfalso; omega
  · rw [qp3] at hj; exfalso; omega
  · rw [qp4] at hj; exfalso; omega
  · rw [qp5] at hj; exfalso; omega
  · rfl
  · rw [qp7] at hj; exfalso; omega
  · rw [qp8] at hj; exfalso; omega
  · rw [qp9] at hj; exfalso; omega
  · rw [qp10] at hj; exfalso; omega
  · rw [qp11] at hj; exfalso; omega
  · rw [qp12] at hj; exfalso; omega
  · rw [qp13] at hj; exfalso; omega
  · rw [qp14] at hj; exfalso; omega
  · rw [qp15] at hj; exfalso; omega
  · rw [qp16] at hj; exfalso; omega
  · rw [qp17] at hj; exfalso; omega
  · rw [qp18] at hj; exfalso; omega
  · rw [qp19] at hj; exfalso; omega
  · rw [qp20] at hj; exfalso; omega
  · rw [qp21] at hj; exfalso; omega
  · rw [qp22] at hj; exfalso; omega
  · rw [qp23] at hj; exfalso; omega
set_option maxHeartbeats 4000000 in
theorem qu7 (X Y j : Int) (j0 : -12 ≤ j) (j1 : j ≤ 11) (hq : QP X Y (-5)) (hj : QP X Y j) : j = -5 := by
  rw [qp7] at hq
  have hc : j = -12 ∨ j = -11 ∨ j = -10 ∨ j = -9 ∨ j = -8 ∨ j = -7 ∨ j = -6 ∨ j = -5 ∨ j = -4 ∨ j = -3 ∨ j = -2 ∨ j = -1 ∨ j = 0 ∨ j = 1 ∨ j = 2 ∨ j = 3 ∨ j = 4 ∨ j = 5 ∨ j = 6 ∨ j = 7 ∨ j = 8 ∨ j = 9 ∨ j = 10 ∨ j = 11 := by omega
  rcases hc with rfl | rfl | rfl | rfl | rfl | rfl | rfl | rfl | rfl | rfl | rfl | rfl | rfl | rfl | rfl | rfl | rfl | rfl | rfl | rfl | rfl | rfl | rfl | rfl
  · rw [qp0] at hj; exfalso; omega
  · rw [qp1] at hj; exfalso; omega
  · rw [qp2] at hj; exfalso; omega
  · rw [qp3] at hj; exfalso; omega
  · rw [qp4] at hj; exfalso; omega
  · rw [qp5] at hj; exfalso; omega
  · rw [qp6] at hj; exfalso; omega
  · rfl
  · rw [qp8] at hj; exfalso; omega
  · rw [qp9] at hj; exfalso; omega
  · rw [qp10] at hj; exfalso; omega
  · rw [qp11] at hj; exfalso; omega
  · rw [qp12] at hj; exfalso; omega
  · rw [qp13] at hj; exfalso; omega
  · rw [qp14] at hj; exfalso; omega
  · rw [qp15] at hj; exfalso; omega
  · rw [qp16] at hj; exfalso; omega
  · rw [qp17] at hj; exfalso; omega
  · rw [qp18] at hj; exfalso; omega
  · rw [qp19] at hj; exfalso; omega
  · rw [qp20] at hj; exfalso; omega
  · rw [qp21] at hj; exfalso; omega
  · rw [qp22] at hj; exfalso; omega
  · rw [qp23] at hj; exfalso; omega
set_option maxHeartbeats 4000000 in
theorem qu8 (X Y j : Int) (j0 : -12 ≤ j) (j1 : j ≤ 11) (hq : QP X Y (-4)) (hj : QP X Y j) : j = -4 := by
  rw [qp8] at hq
  have hc : j = -12 ∨ j = -11 ∨ j = -10 ∨ j = -9 ∨ j = -8 ∨ j = -7 ∨ j = -6 ∨ j = -5 ∨ j = -4 ∨ j = -3 ∨ j = -2 ∨ j = -1 ∨ j = 0 ∨ j = 1 ∨ j = 2 ∨ j = 3 ∨ j = 4 ∨ j = 5 ∨ j = 6 ∨ j = 7 ∨ j = 8 ∨ j = 9 ∨ j = 10 ∨ j = 11 := by omega
  rcases hc with rfl | rfl | rfl | rfl | rfl | rfl | rfl | rfl | rfl | rfl | rfl | rfl | rfl | rfl | rfl | rfl | rfl | rfl | rfl | rfl | rfl | rfl | rfl | rfl
  · rw [qp0] at hj; exfalso; omega
  · rw [qp1] at hj; exfalso; omega
  · rw [qp2] at hj; exfalso; omega
  · rw [qp3] at hj; exfalso; omega
  · rw [qp4] at hj; exfalso; omega
  · rw [qp5] at hj; exfalso; omega
  · rw [qp6] at hj; exfalso; omega
  · rw [qp7] at hj; exfalso; omega
  · rfl
  · rw [qp9] at hj; exfalso; omega
  · rw [qp10] at hj; exfalso; omega
  · rw [qp11] at hj; exfalso; omega
  · rw [qp12] at hj; exfalso; omega
  · rw [qp13] at hj; exfalso; omega
  · rw [qp14] at hj; exfalso; omega
  · rw [qp15] at hj; exfalso; omega
  · rw [qp16] at hj; exfalso; omega
  · rw [qp17] at hj; exfalso; omega
  · rw [qp18] at hj; exfalso; omega
  · rw [qp19] at hj; exfalso; omega
  · rw [qp20] at hj; exfalso; omega
  · rw [qp21] at hj; exfalso; omega
  · rw [qp22] at hj; exfalso; omega
  · rw [qp23] at hj; exfalso; omega
set_option maxHeartbeats 4000000 in
theorem qu9 (X Y j : Int) (j0 : -12 ≤ j) (j1 : j ≤ 11) (hq : QP X Y (-3)) (hj : QP X Y j) : j = -3 := by
  rw [qp9] at hq
  have hc : j = -12 ∨ j = -11 ∨ j = -10 ∨ j = -9 ∨ j = -8 ∨ j = -7 ∨ j = -6 ∨ j = -5 ∨ j = -4 ∨ j = -3 ∨ j = -2 ∨ j = -1 ∨ j = 0 ∨ j = 1 ∨ j = 2 ∨ j = 3 ∨ j = 4 ∨ j = 5 ∨ j = 6 ∨ j = 7 ∨ j = 8 ∨ j = 9 ∨ j = 10 ∨ j = 11 := by omega
  rcases hc with rfl | rfl | rfl | rfl | rfl | rfl | rfl | rfl | rfl | rfl | rfl | rfl | rfl | rfl | rfl | rfl | rfl | rfl | rfl | rfl | rfl | rfl | rfl | rfl
  · rw [qp0] at hj; exfalso; omega
  · rw [qp1] at hj; exfalso; omega
  · rw [qp2] at hj; exfalso; omega
  · rw [qp3] at hj; exfalso; omega
  · rw [qp4] at hj; exfalso; omega
  · rw [qp5] at hj; exfalso; omega
  · rw [qp6] at hj; exfalso; omega
  · rw [qp7] at hj; exfalso; omega
  · rw [qp8] at hj; exfalso; omega
  · rfl
  · rw [qp10] at hj; exfalso; omega
  · rw [qp11] at hj; exfalso; omega
  · rw [qp12] at hj; exfalso; omega
  · rw [qp13] at hj; exfalso; omega
  · rw [qp14] at hj; exfalso; omega
  · rw [qp15] at hj; exfalso; omega
  · rw [qp16] at hj; exfalso; omega
  · rw [qp17] at hj; exfalso; omega
  · rw [qp18] at hj; exfalso; omega
  · rw [qp19] at hj; exfalso; omega
  · rw [qp20] at hj; exfalso; omega
  · rw [qp21] at hj; exfalso; omega
  · rw [qp22] at hj; exfalso; omega
  · rw [qp23] at hj; exfalso; omega
set_option maxHeartbeats 4000000 in
theorem qu10 (X Y j : Int) (j0 : -12 ≤ j) (j1 : j ≤ 11) (hq : QP X Y (-2)) (hj : QP X Y j) : j = -2 := by
  rw [qp10] at hq
  have hc : j = -12 ∨ j = -11 ∨ j = -10 ∨ j = -9 ∨ j = -8 ∨ j = -7 ∨ j = -6 ∨ j = -5 ∨ j = -4 ∨ j = -3 ∨ j = -2 ∨ j = -1 ∨ j = 0 ∨ j = 1 ∨ j = 2 ∨ j = 3 ∨ j = 4 ∨ j = 5 ∨ j = 6 ∨ j = 7 ∨ j = 8 ∨ j = 9 ∨ j = 10 ∨ j = 11 := by omega
  rcases hc with rfl | rfl | rfl | rfl | rfl | rfl | rfl | rfl | rfl | rfl | rfl | rfl | rfl | rfl | rfl | rfl | rfl | rfl | rfl | rfl | rfl | rfl | rfl | rfl
  · rw [qp0] at hj; exfalso; omega
  · rw [qp1] at hj; exfalso; omega
  · rw [qp2] at hj; exfalso; omega
  · rw [qp3] at hj; exfalso; omega
  · rw [qp4] at hj; exfalso; omega
  · rw [qp5] at hj; exfalso; omega
  · rw [qp6] at hj; exfalso; omega
  · rw [qp7] at hj; exfalso; omega
  · rw [qp8] at hj; exfalso; omega
  · rw [qp9] at hj; exfalso; omega
  · rfl
  · rw [qp11] at hj; exfalso; omega
  · rw [qp12] at hj; exfalso; omega
  · rw [qp13] at hj; exfalso; omega
  · rw [qp14] at hj; exfalso; omega
  · rw [qp15] at hj; exfalso; omega
  · rw [qp16] at hj; exfalso; omega
  · rw [qp17] at hj; exfalso; omega
  · rw [qp18] at hj; exfalso; omega
  · rw [qp19] at hj; exfalso; omega
  · rw [qp20] at hj; exfalso; omega
  · rw [qp21] at hj; exfalso; omega
  · rw [qp22] at hj; exfalso; omega
  · rw [qp23] at hj; exfalso; omega
set_option maxHeartbeats 4000000 in
theorem qu11 (X Y j : Int) (j0 : -12 ≤ j) (j1 : j ≤ 11) (hq : QP X Y (-1)) (hj : QP X Y j) : j = -1 := by
  rw [qp11] at hq
  have hc : j = -12 ∨ j = -11 ∨ j = -10 ∨ j = -9 ∨ j = -8 ∨ j = -7 ∨ j = -6 ∨ j = -5 ∨ j = -4 ∨ j = -3 ∨ j = -2 ∨ j = -1 ∨ j = 0 ∨ j = 1 ∨ j = 2 ∨ j = 3 ∨ j = 4 ∨ j = 5 ∨ j = 6 ∨ j = 7 ∨ j = 8 ∨ j = 9 ∨ j = 10 ∨ j = 11 := by omega
  rcases hc with rfl | rfl | rfl | rfl | rfl | rfl | rfl | rfl | rfl | rfl | rfl | rfl | rfl | rfl | rfl | rfl | rfl | rfl | rfl | rfl | rfl | rfl | rfl | rfl
  · rw [qp0] at hj; exfalso; omega
  · rw [qp1] at hj; exfalso; omega
  · rw [qp2] at hj; exfalso; omega
  · rw [qp3] at hj; exfalso; omega
  · rw [qp4] at hj; exfalso; omega
  · rw [qp5] at hj; exfalso; omega
  · rw [qp6] at hj; exfalso; omega
  · rw [qp7] at hj; exfalso; omega
  · rw [qp8] at hj; exfalso; omega
  · rw [qp9] at hj; exfalso; omega
  · rw [qp10] at hj; exfalso; omega
  · rfl
  · rw [qp12] at hj; exfalso; omega
  · rw [qp13] at hj; exfalso; omega
  · rw [qp14] at hj; exfalso; omega
  · rw [qp15] at hj; exfalso; omega
  · rw [qp16] at hj; exfalso; omega
  · rw [qp17] at hj; exfalso; omega
  · rw [qp18] at hj; exfalso; omega
  · rw [qp19] at hj; exfalso; omega
  · rw [qp20] at hj; exfalso; omega
  · rw [qp21] at hj; exfalso; omega
  · rw [qp22] at hj; exfalso; omega
  · rw [qp23] at hj; exfalso; omega
set_option maxHeartbeats 4000000 in
theorem qu12 (X Y j : Int) (j0 : -12 ≤ j) (j1 : j ≤ 11) (hq : QP X Y (0)) (hj : QP X Y j) : j = 0 := by
  rw [qp12] at hq
  have hc : j = -12 ∨ j = -11 ∨ j = -10 ∨ j = -9 ∨ j = -8 ∨ j = -7 ∨ j = -6 ∨ j = -5 ∨ j = -4 ∨ j = -3 ∨ j = -2 ∨ j = -1 ∨ j = 0 ∨ j = 1 ∨ j = 2 ∨ j = 3 ∨ j = 4 ∨ j = 5 ∨ j = 6 ∨ j = 7 ∨ j = 8 ∨ j = 9 ∨ j = 10 ∨ j = 11 := by omega
  rcases hc with rfl | rfl | rfl | rfl | rfl | rfl | rfl | rfl | rfl | rfl | rfl | rfl | rfl | rfl | rfl | rfl | rfl | rfl | rfl | rfl | rfl | rfl | rfl | rfl
  · rw [qp0] at hj; exfalso; omega
  · rw [qp1] at hj; exfalso; omega
  · rw [qp2] at hj; exfalso; omega
  · rw [qp3] at hj; exfalso; omega
  · rw [qp4] at hj; exfalso; omega
  · rw [qp5] at hj; exfalso; omega
  · rw [qp6] at hj; exfalso; omega
  · rw [qp7] at hj; exfalso; omega
  · rw [qp8] at hj; exfalso; omega
  · rw [qp9] at hj; exfalso; omega
  · rw [qp10] at hj; exfalso; omega
  · rw [qp11] at hj; exfalso; omega
  · rfl
  · rw [qp13] at hj; exfalso; omega
  · rw [qp14] at hj; exfalso; omega
  · rw [qp15] at hj; exfalso; omega
  · rw [qp16] at hj; exfalso; omega
  · rw [qp17] at hj; exfalso; omega
  · rw [qp18] at hj; exfalso; omega
  · rw [qp19] at hj; exfalso; omega
  · rw [qp20] at hj; exfalso; omega
  · rw [qp21] at hj; exfalso; omega
  · rw [qp22] at hj; exfalso; omega
  · rw [qp23] at hj; exfalso; omega
set_option maxHeartbeats 4000000 in
theorem qu13 (X Y j : Int) (j0 : -12 ≤ j) (j1 : j ≤ 11) (hq : QP X Y (1)) (hj : QP X Y j) : j = 1 := by
  rw [qp13] at hq
  have hc : j = -12 ∨ j = -11 ∨ j = -10 ∨ j = -9 ∨ j = -8 ∨ j = -7 ∨ j = -6 ∨ j = -5 ∨ j = -4 ∨ j = -3 ∨ j = -2 ∨ j = -1 ∨ j = 0 ∨ j = 1 ∨ j = 2 ∨ j = 3 ∨ j = 4 ∨ j = 5 ∨ j = 6 ∨ j = 7 ∨ j = 8 ∨ j = 9 ∨ j = 10 ∨ j = 11 := by omega
  rcases hc with rfl | rfl | rfl | rfl | rfl | rfl | rfl | rfl | rfl | rfl | rfl | rfl | rfl | rfl | rfl | rfl | rfl | rfl | rfl | rfl | rfl | rfl | rfl | rfl
  · rw [qp0] at hj; exfalso; omega
  · rw [qp1] at hj; exfalso; omega
  · rw [qp2] at hj; exfalso; omega
  · rw [qp3] at hj; exfalso; omega
  · rw [qp4] at hj; exfalso; omega
  · rw [qp5] at hj; exfalso; omega
  · rw [qp6] at hj; exfalso; omega
  · rw [qp7] at hj; exfalso; omega
  · rw [qp8] at hj; exfalso; omega
  · rw [qp9] at hj; exfalso; omega
  · rw [qp10] at hj; exfalso; omega
  · rw [qp11] at hj; exfalso; omega
  · rw [qp12] at hj; exfalso; omega
  · rfl
  · rw [qp14] at hj; exfalso; omega
  · rw [qp15] at hj; exfalso; omega
  · rw [qp16] at hj; exfalso; omega
  · rw [qp17] at hj; exfalso; omega
  · rw [qp18] at hj; exfalso; omega
  · rw [qp19] at hj; exfalso; omega
  · rw [qp20] at hj; exfalso; omega
  · rw [qp21] at hj; exfalso; omega
  · rw [qp22] at hj; exfalso; omega
  · rw [qp23] at hj; exfalso; omega
set_option maxHeartbeats 4000000 in
theorem qu14 (X Y j : Int) (j0 : -12 ≤ j) (j1 : j ≤ 11) (hq : QP X Y (2)) (hj : QP X Y j) : j = 2 := by
  rw [qp14] at hq
  have hc : j = -12 ∨ j = -11 ∨ j = -10 ∨ j = -9 ∨ j = -8 ∨ j = -7 ∨ j = -6 ∨ j = -5 ∨ j = -4 ∨ j = -3 ∨ j = -2 ∨ j = -1 ∨ j = 0 ∨ j = 1 ∨ j = 2 ∨ j = 3 ∨ j = 4 ∨ j = 5 ∨ j = 6 ∨ j = 7 ∨ j = 8 ∨ j = 9 ∨ j = 10 ∨ j = 11 := by omega
  rcases hc with rfl | rfl | rfl | rfl | rfl | rfl | rfl | rfl | rfl | rfl | rfl | rfl | rfl | rfl | rfl | rfl | rfl | rfl | rfl | rfl | rfl | rfl | rfl | rfl
  · rw [qp0] at hj; exfalso; omega
  · rw [qp1] at hj; exfalso; omega
  · rw [qp2] at hj; exfalso; omega
  · rw [qp3] at hj; exfalso; omega
  · rw [qp4] at hj; exfalso; omega
  · rw [qp5] at hj; exfalso; omega
  · rw [qp6] at hj; exfalso; omega
  · rw [qp7] at hj; exfalso; omega
  · rw [qp8] at hj; exfalso; omega
  · rw [qp9] at hj; exfalso; omega
  · rw [qp10] at hj; exfalso; omega
  · rw [qp11] at hj; exfalso; omega
  · rw [qp12] at hj; exfalso; omega
  · rw [qp13] at hj; exfalso; omega
  · rfl
  · rw [qp15] at hj; exfalso; omega
  · rw [qp16] at hj; exfalso; omega
  · rw [qp17] at hj; exfalso; omega
  · rw [qp18] at hj; exfalso; omega
  · rw [qp19] at hj; exfalso; omega
  · rw [qp20] at hj; exfalso; omega
  · rw [qp21] at hj; exfalso; omega
  · rw [qp22] at hj; exfalso; omega
  · rw [qp23] at hj; exfalso; omega
set_option maxHeartbeats 4000000 in
theorem qu15 (X Y j : Int) (j0 : -12 ≤ j) (j1 : j ≤ 11) (hq : QP X Y (3)) (hj : QP X Y j) : j = 3 := by
  rw [qp15] at hq
  have hc : j = -12 ∨ j = -11 ∨ j = -10 ∨ j = -9 ∨ j = -8 ∨ j = -7 ∨ j = -6 ∨ j = -5 ∨ j = -4 ∨ j = -3 ∨ j = -2 ∨ j = -1 ∨ j = 0 ∨ j = 1 ∨ j = 2 ∨ j = 3 ∨ j = 4 ∨ j = 5 ∨ j = 6 ∨ j = 7 ∨ j = 8 ∨ j = 9 ∨ j = 10 ∨ j = 11 := by omega
  rcases hc with rfl | rfl | rfl | rfl | rfl | rfl | rfl | rfl | rfl | rfl | rfl | rfl | rfl | rfl | rfl | rfl | rfl | rfl | rfl | rfl | rfl | rfl | rfl | rfl
  · rw [qp0] at hj; exfalso; omega
  · rw [qp1] at hj; exfalso; omega
  · rw [qp2] at hj; exfalso; omega
  · rw [qp3] at hj; exfalso; omega
  · rw [qp4] at hj; exfalso; omega
  · rw [qp5] at hj; exfalso; omega
  · rw [qp6] at hj; exfalso; omega
  · rw [qp7] at hj; exfalso; omega
  · rw [qp8] at hj; exfalso; omega
  · rw [qp9] at hj; exfalso; omega
  · rw [qp10] at hj; exfalso; omega
  · rw [qp11] at hj; exfalso; omega
  · rw [qp12] at hj; exfalso; omega
  · rw [qp13] at hj; exfalso; omega
  · rw [qp14] at hj; exfalso; omega
  · rfl
  · rw [qp16] at hj; exfalso; omega
  · rw [qp17] at hj; exfalso; omega
  · rw [qp18] at hj; exfalso; omega
  · rw [qp19] at hj; exfalso; omega
  · rw [qp20] at hj; exfalso; omega
  · rw [qp21] at hj; exfalso; omega
  · rw [qp22] at hj; exfalso; omega
  · rw [qp23] at hj; exfalso; omega
set_option maxHeartbeats 4000000 in
theorem qu16 (X Y j : Int) (j0 : -12 ≤ j) (j1 : j ≤ 11) (hq : QP X Y (4)) (hj : QP X Y j) : j = 4 := by
  rw [qp16] at hq
  have hc : j = -12 ∨ j = -11 ∨ j = -10 ∨ j = -9 ∨ j = -8 ∨ j = -7 ∨ j = -6 ∨ j = -5 ∨ j = -4 ∨ j = -3 ∨ j = -2 ∨ j = -1 ∨ j = 0 ∨ j = 1 ∨ j = 2 ∨ j = 3 ∨ j = 4 ∨ j = 5 ∨ j = 6 ∨ j = 7 ∨ j = 8 ∨ j = 9 ∨ j = 10 ∨ j = 11 := by omega
  rcases hc with rfl | rfl | rfl | rfl | rfl | rfl | rfl | rfl | rfl | rfl | rfl | rfl | rfl | rfl | rfl | rfl | rfl | rfl | rfl | rfl | rfl | rfl | rfl | rfl
  · rw [qp0] at hj; exfalso; omega
  · rw [qp1] at hj; exfalso; omega
  · rw [qp2] at hj; exfalso; omega
  · rw [qp3] at hj; exfalso; omega
  · rw [qp4] at hj; exfalso; omega
  · rw [qp5] at hj; exfalso; omega
  · rw [qp6] at hj; exfalso; omega
  · rw [qp7] at hj; exfalso; omega
  · rw [qp8] at hj; exfalso; omega
  · rw [qp9] at hj; exfalso; omega
  · rw [qp10] at hj; exfalso; omega
  · rw [qp11] at hj; exfalso; omega
  · rw [qp12] at hj; exfalso; omega
  · rw [qp13] at hj; exfalso; omega
  · rw [qp14] at hj; exfalso; omega
  · rw [qp15] at hj; exfalso; omega
  · rfl
  · rw [qp17] at hj; exfalso; omega
  · rw [qp18] at hj; exfalso; omega
  · rw [qp19] at hj; exfalso; omega
  · rw [qp20] at hj; exfalso; omega
  · rw [qp21] at hj; exfalso; omega
  · rw [qp22] at hj; exfalso; omega
  · rw [qp23] at hj; exfalso; omega
set_option maxHeartbeats 4000000 in
theorem qu17 (X Y j : Int) (j0 : -12 ≤ j) (j1 : j ≤ 11) (hq : QP X Y (5)) (hj : QP X Y j) : j = 5 := by
  rw [qp17] at hq
  have hc : j = -12 ∨ j = -11 ∨ j = -10 ∨ j = -9 ∨ j = -8 ∨ j = -7 ∨ j = -6 ∨ j = -5 ∨ j = -4 ∨ j = -3 ∨ j = -2 ∨ j = -1 ∨ j = 0 ∨ j = 1 ∨ j = 2 ∨ j = 3 ∨ j = 4 ∨ j = 5 ∨ j = 6 ∨ j = 7 ∨ j = 8 ∨ j = 9 ∨ j = 10 ∨ j = 11 := by omega
  rcases hc with rfl | rfl | rfl | rfl | rfl | rfl | rfl | rfl | rfl | rfl | rfl | rfl | rfl | rfl | rfl | rfl | rfl | rfl | rfl | rfl | rfl | rfl | rfl | rfl
  · rw [qp0] at hj; exfalso; omega
  · rw [qp1] at hj; exfalso; omega
  · rw [qp2] at hj; exfalso; omega
  · rw [qp3] at hj; exfalso; omega
  · rw [qp4] at hj; exfalso; omega
  · rw [qp5] at hj; exfalso; omega
  · rw [qp6] at hj; exfalso; omega
  · rw [qp7] at hj; exfalso; omega
  · rw [qp8] at hj; exfalso; omega
  · rw [qp9] at hj; exfalso; omega
  · rw [qp10] at hj; exfalso; omega
  · rw [qp11] at hj; exfalso; omega
  · rw [qp12] at hj; exfalso; omega
  · rw [qp13] at hj; exfalso; omega
  · rw [qp14] at hj; exfalso; omega
  · rw [qp15] at hj; exfalso; omega
  · rw [qp16] at hj; exfalso; omega
  · rfl
  · rw [qp18] at hj; exfalso; omega
  · rw [qp19] at hj; exfalso; omega
  · rw [qp20] at hj; exfalso; omega
  · rw [qp21] at hj; exfalso; omega
  · rw [qp22] at hj; exfalso; omega
  · rw [qp23] at hj; exfalso; omega
set_option maxHeartbeats 4000000 in
theorem qu18 (X Y j : Int) (j0 : -12 ≤ j) (j1 : j ≤ 11) (hq : QP X Y (6)) (hj : QP X Y j) : j = 6 := by
  rw [qp18] at hq
  have hc : j = -12 ∨ j = -11 ∨ j = -10 ∨ j = -9 ∨ j = -8 ∨ j = -7 ∨ j = -6 ∨ j = -5 ∨ j = -4 ∨ j = -3 ∨ j = -2 ∨ j = -1 ∨ j = 0 ∨ j = 1 ∨ j = 2 ∨ j = 3 ∨ j = 4 ∨ j = 5 ∨ j = 6 ∨ j = 7 ∨ j = 8 ∨ j = 9 ∨ j = 10 ∨ j = 11 := by omega
  rcases hc with rfl | rfl | rfl | rfl | rfl | rfl | rfl | rfl | rfl | rfl | rfl | rfl | rfl | rfl | rfl | rfl | rfl | rfl | rfl | rfl | rfl | rfl | rfl | rfl
  · rw [qp0] at hj; exfalso; omega
  · rw [qp1] at hj; exfalso; omega
  · rw [qp2] at hj; exfalso; omega
  · rw [qp3] at hj; exfalso; omega
  · rw [qp4] at hj; exfalso; omega
  · rw [qp5] at hj; exfalso; omega
  · rw [qp6] at hj; exfalso; omega
  · rw [qp7] at hj; exfalso; omega
  · rw [qp8] at hj; exfalso; omega
  · rw [qp9] at hj; exfalso; omega
  · rw [qp10] at hj; exfalso; omega
  · rw [qp11] at hj; exfalso; omega
  · rw [qp12] at hj; exfalso; omega
  · rw [qp13] at hj; exfalso; omega
  · rw [qp14] at hj; exfalso; omega
  · rw [qp15] at hj; exfalso; omega
  · rw [qp16] at hj; exfalso; omega
  · rw [qp17] at hj; exfalso; omega
  · rfl
  · rw [qp19] at hj; exfalso; omega
  · rw [qp20] at hj; exfalso; omega
  · rw [qp21] at hj; exfalso; omega
  · rw [qp22] at hj; exfalso; omega
  · rw [qp23] at hj; exfalso; omega
set_option maxHeartbeats 4000000 in
theorem qu19 (X Y j : Int) (j0 : -12 ≤ j) (j1 : j ≤ 11) (hq : QP X Y (7)) (hj : QP X Y j) : j = 7 := by
  rw [qp19] at hq
  have hc : j = -12 ∨ j = -11 ∨ j = -10 ∨ j = -9 ∨ j = -8 ∨ j = -7 ∨ j = -6 ∨ j = -5 ∨ j = -4 ∨ j = -3 ∨ j = -2 ∨ j = -1 ∨ j = 0 ∨ j = 1 ∨ j = 2 ∨ j = 3 ∨ j = 4 ∨ j = 5 ∨ j = 6 ∨ j = 7 ∨ j = 8 ∨ j = 9 ∨ j = 10 ∨ j = 11 := by omega
  rcases hc with rfl | rfl | rfl | rfl | rfl | rfl | rfl | rfl | rfl | rfl | rfl | rfl | rfl | rfl | rfl | rfl | rfl | rfl | rfl | rfl | rfl | rfl | rfl | rfl
  · rw [qp0] at hj; exfalso; omega
  · rw [qp1] at hj; exfalso; omega
  · rw [qp2] at hj; exfalso; omega
  · rw [qp3] at hj; exfalso; omega
  · rw [qp4] at hj; exfalso; omega
  · rw [qp5] at hj; exfalso; omega
  · rw [qp6] at hj; exfalso; omega
  · rw [qp7] at hj; exfalso; omega
  · rw [qp8] at hj; exfalso; omega
  · rw [qp9] at hj; exfalso; omega
  · rw [qp10] at hj; exfalso; omega
  · rw [qp11] at hj; exfalso; omega
  · rw [qp12] at hj; exfalso; omega
  · rw [qp13] at hj; exfalso; omega
  · rw [qp14] at hj; exfalso; omega
  · rw [qp15] at hj; exfalso; omega
  · rw [qp16] at hj; exfalso; omega
  · rw [qp17] at hj; exfalso; omega
  · rw [qp18] at hj; exfalso; omega
  · rfl
  · rw [qp20] at hj; exfalso; omega
  · rw [qp21] at hj; exfalso; omega
  · rw [qp22] at hj; exfalso; omega
  · rw [qp23] at hj; exfalso; omega
set_option maxHeartbeats 4000000 in
theorem qu20 (X Y j : Int) (j0 : -12 ≤ j) (j1 : j ≤ 11) (hq : QP X Y (8)) (hj : QP X Y j) : j = 8 := by
  rw [qp20] at hq
  have hc : j = -12 ∨ j = -11 ∨ j = -10 ∨ j = -9 ∨ j = -8 ∨ j = -7 ∨ j = -6 ∨ j = -5 ∨ j = -4 ∨ j = -3 ∨ j = -2 ∨ j = -1 ∨ j = 0 ∨ j = 1 ∨ j = 2 ∨ j = 3 ∨ j = 4 ∨ j = 5 ∨ j = 6 ∨ j = 7 ∨ j = 8 ∨ j = 9 ∨ j = 10 ∨ j = 11 := by omega
  rcases hc with rfl | rfl | rfl | rfl | rfl | rfl | rfl | rfl | rfl | rfl | rfl | rfl | rfl | rfl | rfl | rfl | rfl | rfl | rfl | rfl | rfl | rfl | rfl | rfl
  · rw [qp0] at hj; exfalso; omega
  · rw [qp1] at hj; exfalso; omega
  · rw [qp2] at hj; exfalso; omega
  · rw [qp3] at hj; exfalso; omega
  · rw [qp4] at hj; exfalso; omega
  · rw [qp5] at hj; exfalso; omega
  · rw [qp6] at hj; exfalso; omega
  · rw [qp7] at hj; exfalso; omega
  · rw [qp8] at hj; exfalso; omega
  · rw [qp9] at hj; exfalso; omega
  · rw [qp10] at hj; exfalso; omega
  · rw [qp11] at hj; exfalso; omega
  · rw [qp12] at hj; exfalso; omega
  · rw [qp13] at hj; exfalso; omega
  · rw [qp14] at hj; exfalso; omega
  · rw [qp15] at hj; exfalso; omega
  · rw [qp16] at hj; exfalso; omega
  · rw [qp17] at hj; exfalso; omega
  · rw [qp18] at hj; exfalso; omega
  · rw [qp19] at hj; exfalso; omega
  · rfl
  · rw [qp21] at hj; exfalso; omega
  · rw [qp22] at hj; exfalso; omega
  · rw [qp23] at hj; exfalso; omega
set_option maxHeartbeats 4000000 in
theorem qu21 (X Y j : Int) (j0 : -12 ≤ j) (j1 : j ≤ 11) (hq : QP X Y (9)) (hj : QP X Y j) : j = 9 := by
  rw [qp21] at hq
  have hc : j = -12 ∨ j = -11 ∨ j = -10 ∨ j = -9 ∨ j = -8 ∨ j = -7 ∨ j = -6 ∨ j = -5 ∨ j = -4 ∨ j = -3 ∨ j = -2 ∨ j = -1 ∨ j = 0 ∨ j = 1 ∨ j = 2 ∨ j = 3 ∨ j = 4 ∨ j = 5 ∨ j = 6 ∨ j = 7 ∨ j = 8 ∨ j = 9 ∨ j = 10 ∨ j = 11 := by omega
  rcases hc with rfl | rfl | rfl | rfl | rfl | rfl | rfl | rfl | rfl | rfl | rfl | rfl | rfl | rfl | rfl | rfl | rfl | rfl | rfl | rfl | rfl | rfl | rfl | rfl
  · rw [qp0] at hj; exfalso; omega
  · rw [qp1] at hj; exfalso; omega
  · rw [qp2] at hj; exfalso; omega
  · rw [qp3] at hj; exfalso; omega
  · rw [qp4] at hj; exfalso; omega
  · rw [qp5] at hj; exfalso; omega
  · rw [qp6] at hj; exfalso; omega
  · rw [qp7] at hj; exfalso; omega
  · rw [qp8] at hj; exfalso; omega
  · rw [qp9] at hj; exfalso; omega
  · rw [qp10] at hj; exfalso; omega
  · rw [qp11] at hj; exfalso; omega
  · rw [qp12] at hj; exfalso; omega
  · rw [qp13] at hj; exfalso; omega
  · rw [qp14] at hj; exfalso; omega
  · rw [qp15] at hj; exfalso; omega
  · rw [qp16] at hj; exfalso; omega
  · rw [qp17] at hj; exfalso; omega
  · rw [qp18] at hj; exfalso; omega
  · rw [qp19] at hj; exfalso; omega
  · rw [qp20] at hj; exfalso; omega
  · rfl
  · rw [qp22] at hj; exfalso; omega
  · rw [qp23] at hj; exfalso; omega
set_option maxHeartbeats 4000000 in
theorem qu22 (X Y j : Int) (j0 : -12 ≤ j) (j1 : j ≤ 11) (hq : QP X Y (10)) (hj : QP X Y j) : j = 10 := by
  rw [qp22] at hq
  have hc : j = -12 ∨ j = -11 ∨ j = -10 ∨ j = -9 ∨ j = -8 ∨ j = -7 ∨ j = -6 ∨ j = -5 ∨ j = -4 ∨ j = -3 ∨ j = -2 ∨ j = -1 ∨ j = 0 ∨ j = 1 ∨ j = 2 ∨ j = 3 ∨ j = 4 ∨ j = 5 ∨ j = 6 ∨ j = 7 ∨ j = 8 ∨ j = 9 ∨ j = 10 ∨ j = 11 := by omega
  rcases hc with rfl | rfl | rfl | rfl | rfl | rfl | rfl | rfl | rfl | rfl | rfl | rfl | rfl | rfl | rfl | rfl | rfl | rfl | rfl | rfl | rfl | rfl | rfl | rfl
  · rw [qp0] at hj; exfalso; omega
  · rw [qp1] at hj; exfalso; omega
  · rw [qp2] at hj; exfalso; omega
  · rw [qp3] at hj; exfalso; omega
  · rw [qp4] at hj; exfalso; omega
  · rw [qp5] at hj; exfalso; omega
  · rw [qp6] at hj; exfalso; omega
  · rw [qp7] at hj; exfalso; omega
  · rw [qp8] at hj; exfalso; omega
  · rw [qp9] at hj; exfalso; omega
  · rw [qp10] at hj; exfalso; omega
  · rw [qp11] at hj; exfalso; omega
  · rw [qp12] at hj; exfalso; omega
  · rw [qp13] at hj; exfalso; omega
  · rw [qp14] at hj; exfalso; omega
  · rw [qp15] at hj; exfalso; omega
  · rw [qp16] at hj; exfalso; omega
  · rw [qp17] at hj; exfalso; omega
  · rw [qp18] at hj; exfalso; omega
  · rw [qp19] at hj; exfalso; omega
  · rw [qp20] at hj; exfalso; omega
  · rw [qp21] at hj; exfalso; omega
  · rfl
  · rw [qp23] at hj; exfalso; omega
set_option maxHeartbeats 4000000 in
theorem qu23 (X Y j : Int) (j0 : -12 ≤ j) (j1 : j ≤ 11) (hq : QP X Y (11)) (hj : QP X Y j) : j = 11 := by
  rw [qp23] at hq
  have hc : j = -12 ∨ j = -11 ∨ j = -10 ∨ j = -9 ∨ j = -8 ∨ j = -7 ∨ j = -6 ∨ j = -5 ∨ j = -4 ∨ j = -3 ∨ j = -2 ∨ j = -1 ∨ j = 0 ∨ j = 1 ∨ j = 2 ∨ j = 3 ∨ j = 4 ∨ j = 5 ∨ j = 6 ∨ j = 7 ∨ j = 8 ∨ j = 9 ∨ j = 10 ∨ j = 11 := by omega
  rcases hc with rfl | rfl | rfl | rfl | rfl | rfl | rfl | rfl | rfl | rfl | rfl | rfl | rfl | rfl | rfl | rfl | rfl | rfl | rfl | rfl | rfl | rfl | rfl | rfl
  · rw [qp0] at hj; exfalso; omega
  · rw [qp1] at hj; exfalso; omega
  · rw [qp2] at hj; exfalso; omega
  · rw [qp3] at hj; exfalso; omega
  · rw [qp4] at hj; exfalso; omega
  · rw [qp5] at hj; exfalso; omega
  · rw [qp6] at hj; exfalso; omega
  · rw [qp7] at hj; exfalso; omega
  · rw [qp8] at hj; exfalso; omega
  · rw [qp9] at hj; exfalso; omega
  · rw [qp10] at hj; exfalso; omega
  · rw [qp11] at hj; exfalso; omega
  · rw [qp12] at hj; exfalso; omega
  · rw [qp13] at hj; exfalso; omega
  · rw [qp14] at hj; exfalso; omega
  · rw [qp15] at hj; exfalso; omega
  · rw [qp16] at hj; exfalso; omega
  · rw [qp17] at hj; exfalso; omega
  · rw [qp18] at hj; exfalso; omega
  · rw [qp19] at hj; exfalso; omega
  · rw [qp20] at hj; exfalso; omega
  · rw [qp21] at hj; exfalso; omega
  · rw [qp22] at hj; exfalso; omega
  · rfl
theorem qp_one (X Y h j : Int) (h0 : -12 ≤ h) (h1 : h ≤ 11) (j0 : -12 ≤ j) (j1 : j ≤ 11) (hq : QP X Y h) (hj : QP X Y j) : j = h := by
  have hc : h = -12 ∨ h = -11 ∨ h = -10 ∨ h = -9 ∨ h = -8 ∨ h = -7 ∨ h = -6 ∨ h = -5 ∨ h = -4 ∨ h = -3 ∨ h = -2 ∨ h = -1 ∨ h = 0 ∨ h = 1 ∨ h = 2 ∨ h = 3 ∨ h = 4 ∨ h = 5 ∨ h = 6 ∨ h = 7 ∨ h = 8 ∨ h = 9 ∨ h = 10 ∨ h = 11 := by omega
  rcases hc with rfl | rfl | rfl | rfl | rfl | rfl | rfl | rfl | rfl | rfl | rfl | rfl | rfl | rfl | rfl | rfl | rfl | rfl | rfl | rfl | rfl | rfl | rfl | rfl
  · exact qu0 X Y j j0 j1 hq hj
  · exact qu1 X Y j j0 j1 hq hj
  · exact qu2 X Y j j0 j1 hq hj
  · exact qu3 X Y j j0 j1 hq hj
  · exact qu4 X Y j j0 j1 hq hj
  · exact qu5 X Y j j0 j1 hq hj
  · exact qu6 X Y j j0 j1 hq hj
  · exact qu7 X Y j j0 j1 hq hj
  · exact qu8 X Y j j0 j1 hq hj
  · exact qu9 X Y j j0 j1 hq hj
  · exact qu10 X Y j j0 j1 hq hj
  · exact qu11 X Y j j0 j1 hq hj
  · exact qu12 X Y j j0 j1 hq hj
  · exact qu13 X Y j j0 j1 hq hj
  · exact qu14 X Y j j0 j1 hq hj
  · exact qu15 X Y j j0 j1 hq hj
  · exact qu16 X Y j j0 j1 hq hj
  · exact qu17 X Y j j0 j1 hq hj
  · exact qu18 X Y j j0 j1 hq hj
  · exact qu19 X Y j j0 j1 hq hj
  · exact qu20 X Y j j0 j1 hq hj
  · exact qu21 X Y j j0 j1 hq hj
  · exact qu22 X Y j j0 j1 hq hj
  · exact qu23 X Y j j0 j1 hq hj
theorem cross_q (l e n h : Int) : lnE l h * n - lnN h * e = qC (1000 * e) (sinI l * n) h := by
  unfold lnE lnN qC sH cH; grind
/-- On a line: stretched, the dot has the same sign. -/
theorem on_q {l e n h : Int} (l0 : 1 ≤ l) (l1 : l ≤ 90) : onB (lnE l h) (lnN h) e n = true ↔ (qC (1000 * e) (sinI l * n) h = 0 ∧ 0 < qD (1000 * e) (sinI l * n) h) := by
  have hp := sin_pos l l0 l1
  unfold onB
  rw [decide_eq_true_iff, cross_q]
  have hn := sin_nn (15 * h)
  have hs : 0 < sH h * sH h + cH h * cH h := sq_pos (by intro ⟨a, b⟩; exact hn ⟨b, a⟩)
  have hs1 : 0 ≤ sH h * sH h := sqn _
  have hs2 : 0 ≤ cH h * cH h := sqn _
  constructor
  · rintro ⟨h1, h2⟩
    refine ⟨h1, ?_⟩
    -- sH h * (sin l * n) = cH h * (1000 e)
    unfold qC at h1
    unfold lnE lnN at h2
    change 0 < sinI l * sH h * e + 1000 * cH h * n at h2
    unfold qD
    generalize sinI l = a at *
    generalize sH h = s at *
    generalize cH h = c at *
    -- s*a*n = c*1000*e ; 0 < a*s*e + 1000*c*n ; show 0 < s*(1000 e) + c*(a n)
    have k1 : (a * s * e + 1000 * c * n) * (s * (1000 * e) + c * (a * n)) = 1000 * a * ((s * e + c * n) * (s * e + c * n)) + (1000 - a) * (1000 - a) * (s * e) * (c * n) := by grind
    have k2 : (s * e) * (c * n) * (a * 1000) = (s * (a * n)) * (c * (1000 * e)) := by grind
    have k3 : s * (a * n) = c * (1000 * e) := by omega
    have k4 : 0 ≤ (s * e) * (c * n) * (a * 1000) := by rw [k2, k3]; exact sqn _
    have k5 : 0 ≤ (s * e) * (c * n) := by
      rcases Int.lt_or_le ((s * e) * (c * n)) 0 with g | g
      · have := mul_np (x := (s * e) * (c * n)) (y := a * 1000) g (by omega); omega
      · exact g
    have k6 : 0 ≤ (1000 - a) * (1000 - a) * (s * e) * (c * n) := by
      have := Int.mul_nonneg (sqn (1000 - a)) k5
      have e' : (1000 - a) * (1000 - a) * (s * e) * (c * n) = (1000 - a) * (1000 - a) * ((s * e) * (c * n)) := by grind
      omega
    have k7 : 0 ≤ 1000 * a * ((s * e + c * n) * (s * e + c * n)) := Int.mul_nonneg (by omega) (sqn _)
    have k8 : 0 ≤ s * (1000 * e) + c * (a * n) := by
      rcases Int.lt_or_le (s * (1000 * e) + c * (a * n)) 0 with g | g
      · have := mul_pn h2 g; omega
      · exact g
    rcases Int.lt_or_le 0 (s * (1000 * e) + c * (a * n)) with g | g
    · exact g
    · exfalso
      have g0 : s * (1000 * e) + c * (a * n) = 0 := by omega
      rw [g0, Int.mul_zero] at k1
      have z1 : 1000 * a * ((s * e + c * n) * (s * e + c * n)) = 0 := by omega
      -- both stretched numbers vanish
      have y1 : (s * s + c * c) * (1000 * e) = 0 := by
        have : (s * s + c * c) * (1000 * e) = s * (s * (1000 * e) + c * (a * n)) - c * (s * (a * n) - c * (1000 * e)) := by grind
        rw [this, g0, h1]; grind
      have y2 : (s * s + c * c) * (a * n) = 0 := by
        have : (s * s + c * c) * (a * n) = c * (s * (1000 * e) + c * (a * n)) + s * (s * (a * n) - c * (1000 * e)) := by grind
        rw [this, g0, h1]; grind
      have e0 : e = 0 := by rcases Int.mul_eq_zero.1 y1 with g | g <;> omega
      have n0 : a * n = 0 := by rcases Int.mul_eq_zero.1 y2 with g | g <;> omega
      have n1 : n = 0 := by rcases Int.mul_eq_zero.1 n0 with g | g <;> omega
      subst e0; subst n1; simp at h2
  · rintro ⟨h1, h2⟩
    refine ⟨h1, ?_⟩
    unfold qC at h1
    unfold qD at h2
    unfold lnE lnN
    change 0 < sinI l * sH h * e + 1000 * cH h * n
    generalize sinI l = a at *
    generalize sH h = s at *
    generalize cH h = c at *
    have k1 : (a * s * e + 1000 * c * n) * (s * (1000 * e) + c * (a * n)) = 1000 * a * ((s * e + c * n) * (s * e + c * n)) + (1000 - a) * (1000 - a) * (s * e) * (c * n) := by grind
    have k2 : (s * e) * (c * n) * (a * 1000) = (s * (a * n)) * (c * (1000 * e)) := by grind
    have k3 : s * (a * n) = c * (1000 * e) := by omega
    have k4 : 0 ≤ (s * e) * (c * n) * (a * 1000) := by rw [k2, k3]; exact sqn _
    have k5 : 0 ≤ (s * e) * (c * n) := by
      rcases Int.lt_or_le ((s * e) * (c * n)) 0 with g | g
      · have := mul_np (x := (s * e) * (c * n)) (y := a * 1000) g (by omega); omega
      · exact g
    have k6 : 0 ≤ (1000 - a) * (1000 - a) * (s * e) * (c * n) := by
      have := Int.mul_nonneg (sqn (1000 - a)) k5
      have e' : (1000 - a) * (1000 - a) * (s * e) * (c * n) = (1000 - a) * (1000 - a) * ((s * e) * (c * n)) := by grind
      omega
    have k7 : 0 ≤ 1000 * a * ((s * e + c * n) * (s * e + c * n)) := Int.mul_nonneg (by omega) (sqn _)
    have k8 : 0 ≤ a * s * e + 1000 * c * n := by
      rcases Int.lt_or_le (a * s * e + 1000 * c * n) 0 with g | g
      · have := mul_np g h2; omega
      · exact g
    rcases Int.lt_or_le 0 (a * s * e + 1000 * c * n) with g | g
    · exact g
    · exfalso
      have g0 : a * s * e + 1000 * c * n = 0 := by omega
      rw [g0, Int.zero_mul] at k1
      have z1 : 1000 * a * ((s * e + c * n) * (s * e + c * n)) = 0 := by omega
      have z2 : (s * e) + c * n = 0 := by
        rcases Int.mul_eq_zero.1 z1 with g | g
        · omega
        · rcases Int.mul_eq_zero.1 g with g | g <;> exact g
      -- k5: (s e)(c n) >= 0 with s e = -(c n): both vanish
      have z3 : s * e = -(c * n) := by omega
      have z4 : c * n = 0 := by
        rw [z3] at k5
        have := sqn (c * n)
        have e' : -(c * n) * (c * n) = -((c * n) * (c * n)) := by grind
        have : (c * n) * (c * n) = 0 := by omega
        rcases Int.mul_eq_zero.1 this with g | g <;> exact g
      have z5 : s * e = 0 := by omega
      have : s * (1000 * e) + c * (a * n) = 1000 * (s * e) + a * (c * n) := by grind
      rw [this, z4, z5] at h2; simp at h2
theorem bet_q (l e n h : Int) : betB l e n h = true ↔ (qC (1000 * e) (sinI l * n) h < 0 ∧ 0 < qC (1000 * e) (sinI l * n) (nxH h)) := by
  unfold betB
  rw [decide_eq_true_iff, cross_q]
  have e1 : e * lnN (nxH h) - n * lnE l (nxH h) = -(qC (1000 * e) (sinI l * n) (nxH h)) := by rw [← cross_q]; grind
  rw [e1]; omega
theorem hb_q {l e n h : Int} (l0 : 1 ≤ l) (l1 : l ≤ 90) (hg : goB e n = true) : hbP l e n h = true ↔ QP (1000 * e) (sinI l * n) h := by
  rw [hbP_in l0 l1 hg, Bool.or_eq_true, on_q l0 l1, bet_q]; exact Iff.rfl
theorem q_go {l e n : Int} (l0 : 1 ≤ l) (l1 : l ≤ 90) (hg : goB e n = true) : ¬ (1000 * e = 0 ∧ sinI l * n = 0) := by
  have hp := sin_pos l l0 l1
  have h := (goB_iff.1 hg).2
  rintro ⟨a, b⟩
  rcases Int.mul_eq_zero.1 b with g | g <;> omega
/-- A valid shadow has an hour. -/
theorem hb_some {l e n r : Int} (l0 : 1 ≤ l) (l1 : l ≤ 90) (hg : goB e n = true) (h : HourIs (hbP l e n) r) : r ≠ 12 := by
  rintro rfl
  rcases h with ⟨_, h, _⟩ | ⟨_, h⟩
  · omega
  · obtain ⟨k, k0, k1, hk⟩ := qp_some (1000 * e) (sinI l * n) (q_go l0 l1 hg)
    have := h k k0 k1
    rw [(hb_q l0 l1 hg).2 hk] at this; cases this
theorem hb_on {l e n r s : Int} (l0 : 1 ≤ l) (l1 : l ≤ 90) (hg : goB e n = true) (h : HourIs (hbP l e n) r) (k : HourIs (hoP l e n) s) : s = 12 ∨ s = r := by
  by_cases hs : s = 12
  · exact .inl hs
  · right
    obtain ⟨s0, s1, hp⟩ := k.holds hs
    obtain ⟨r0, r1, hq⟩ := h.holds (hb_some l0 l1 hg h)
    have g := (goB_iff.1 hg).1
    rw [hoP_in l0 l1 (by omega) (by omega) (by omega) (by omega)] at hp
    have hp2 : hbP l e n s = true := by rw [hbP_in l0 l1 hg, hp]; rfl
    exact qp_one _ _ r s r0 r1 s0 s1 ((hb_q l0 l1 hg).1 hq) ((hb_q l0 l1 hg).1 hp2)
theorem qC_half (X Y h : Int) : qC X Y (h + 12) = -qC X Y h := by
  unfold qC sH cH; rw [show 15 * (h + 12) = 15 * h + 180 by omega, sin_half, cos_half]; grind
theorem qC_half' (X Y h : Int) : qC X Y (h - 12) = -qC X Y h := by
  unfold qC sH cH; rw [show 15 * (h - 12) = 15 * h - 180 by omega, sin_half', cos_half']; grind
theorem qD_half (X Y h : Int) : qD X Y (h + 12) = -qD X Y h := by
  unfold qD sH cH; rw [show 15 * (h + 12) = 15 * h + 180 by omega, sin_half, cos_half]; grind
theorem qD_half' (X Y h : Int) : qD X Y (h - 12) = -qD X Y h := by
  unfold qD sH cH; rw [show 15 * (h - 12) = 15 * h - 180 by omega, sin_half', cos_half']; grind
theorem qC_neg (X Y h : Int) : qC (-X) (-Y) h = -qC X Y h := by unfold qC; grind
theorem qD_neg (X Y h : Int) : qD (-X) (-Y) h = -qD X Y h := by unfold qD; grind
theorem qC_turn (X Y h : Int) : qC X Y (h + 24) = qC X Y h := by rw [show h + 24 = h + 12 + 12 by omega, qC_half, qC_half]; omega
theorem qp_back {X Y h : Int} (h0 : -12 ≤ h) (h1 : h ≤ 11) (hq : QP X Y h) : QP (-X) (-Y) (if h < 0 then h + 12 else h - 12) := by
  unfold QP at *
  rw [qC_neg, qC_neg, qD_neg]
  split
  · rename_i hl
    rw [qC_half, qD_half]
    have e : nxH (h + 12) = nxH h + 12 ∨ nxH (h + 12) = nxH h - 12 := by unfold nxH; omega
    rcases e with e | e
    · rw [e, qC_half]; omega
    · rw [e, qC_half']; omega
  · rename_i hl
    rw [qC_half', qD_half']
    have e : nxH (h - 12) = nxH h + 12 ∨ nxH (h - 12) = nxH h - 12 := by unfold nxH; omega
    rcases e with e | e
    · rw [e, qC_half]; omega
    · rw [e, qC_half']; omega
theorem go_neg {e n : Int} (hg : goB e n = true) : goB (-e) (-n) = true := by
  rw [goB_iff] at *; omega
theorem hb_back {l e n r s : Int} (l0 : 1 ≤ l) (l1 : l ≤ 90) (hg : goB e n = true) (h : HourIs (hbP l e n) r) (k : HourIs (hbP l (-e) (-n)) s) : s = r + 12 ∨ s = r - 12 := by
  obtain ⟨r0, r1, hq⟩ := h.holds (hb_some l0 l1 hg h)
  obtain ⟨s0, s1, hs⟩ := k.holds (hb_some l0 l1 (go_neg hg) k)
  have h1 := qp_back r0 r1 ((hb_q l0 l1 hg).1 hq)
  have h2 := (hb_q l0 l1 (go_neg hg)).1 hs
  have e1 : 1000 * -e = -(1000 * e) := by omega
  have e2 : sinI l * -n = -(sinI l * n) := by grind
  rw [e1, e2] at h2
  have h3 := qp_one _ _ _ s (by split <;> omega) (by split <;> omega) s0 s1 h1 h2
  rw [h3]
  split <;> omega
end Go.Proofs.Ytgbelpkhfaajoab
