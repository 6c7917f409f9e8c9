/- Ways: plain mathematics of chapter 2. -/
namespace Go.Proofs.Ytibpaojhjgpdaaa
set_option linter.unusedVariables false

def wvB (e n : Int) : Bool := decide (-1000 ≤ e ∧ e ≤ 1000 ∧ -1000 ≤ n ∧ n ≤ 1000)
theorem wvB_iff {e n : Int} : wvB e n = true ↔ -1000 ≤ e ∧ e ≤ 1000 ∧ -1000 ≤ n ∧ n ≤ 1000 := by unfold wvB; simp
def halfI (e n : Int) : Int := if e = 0 ∧ n = 0 then -1 else if 0 < n ∨ (n = 0 ∧ 0 < e) then 0 else 1
def goB (e n : Int) : Bool := wvB e n && !decide (e = 0 ∧ n = 0)
theorem goB_iff {e n : Int} : goB e n = true ↔ (-1000 ≤ e ∧ e ≤ 1000 ∧ -1000 ≤ n ∧ n ≤ 1000) ∧ ¬ (e = 0 ∧ n = 0) := by
  unfold goB; rw [Bool.and_eq_true, wvB_iff]; simp; omega
/-- Comes before, of ways of any length. -/
def Bef (a b c d : Int) : Prop := halfI a b < halfI c d ∨ halfI a b = halfI c d ∧ 0 < a * d - b * c
instance (a b c d : Int) : Decidable (Bef a b c d) := by unfold Bef; infer_instance
def befB (a b c d : Int) : Bool := decide (Bef a b c d)
theorem befB_iff {a b c d : Int} : befB a b c d = true ↔ Bef a b c d := by unfold befB; simp
def rlB (a b c d : Int) : Bool := goB a b && goB c d && befB a b c d
def swB (a b c d : Int) : Bool := goB a b && goB c d && !befB a b c d && !befB c d a b

theorem half_nil {e n : Int} : halfI e n = -1 ↔ e = 0 ∧ n = 0 := by unfold halfI; split <;> (try split) <;> omega
theorem half_0 {e n : Int} : halfI e n = 0 ↔ (0 < n ∨ (n = 0 ∧ 0 < e)) := by unfold halfI; split <;> (try split) <;> omega
theorem half_1 {e n : Int} : halfI e n = 1 ↔ (n < 0 ∨ (n = 0 ∧ e < 0)) := by unfold halfI; split <;> (try split) <;> omega
theorem half_cases (e n : Int) : halfI e n = -1 ∨ halfI e n = 0 ∨ halfI e n = 1 := by unfold halfI; split <;> (try split) <;> omega
theorem half_neg {e n : Int} (h : ¬ (e = 0 ∧ n = 0)) : halfI (-e) (-n) = 1 - halfI e n := by
  unfold halfI; split <;> (try split) <;> (try split) <;> (try split) <;> omega
theorem half_two (e n : Int) : halfI (2 * e) (2 * n) = halfI e n := by
  unfold halfI; split <;> (try split) <;> (try split) <;> (try split) <;> omega

theorem pos_of {x y : Int} (hx : 0 < x) (h : 0 < x * y) : 0 < y := by
  rcases Int.lt_trichotomy y 0 with h1 | h1 | h1
  · have := Int.mul_neg_of_pos_of_neg hx h1; omega
  · subst h1; simp at h
  · exact h1
theorem zero_of {x y : Int} (hx : 0 < x) (h : x * y = 0) : y = 0 := by
  rcases Int.mul_eq_zero.1 h with h | h
  · omega
  · exact h
theorem neg_of {x y : Int} (hx : 0 < x) (h : x * y < 0) : y < 0 := by
  have := pos_of (y := -y) hx (by rw [Int.mul_neg]; omega)
  omega
theorem mul_pp {x y : Int} (hx : 0 < x) (hy : 0 < y) : 0 < x * y := Int.mul_pos hx hy
theorem mul_nn {x y : Int} (hx : x < 0) (hy : y < 0) : 0 < x * y := Int.mul_pos_of_neg_of_neg hx hy
theorem mul_pn {x y : Int} (hx : 0 < x) (hy : y < 0) : x * y < 0 := Int.mul_neg_of_pos_of_neg hx hy
theorem mul_np {x y : Int} (hx : x < 0) (hy : 0 < y) : x * y < 0 := Int.mul_neg_of_neg_of_pos hx hy
theorem sqn (a : Int) : 0 ≤ a * a := by
  rcases Int.le_total 0 a with h | h
  · exact Int.mul_nonneg h h
  · exact Int.mul_nonneg_of_nonpos_of_nonpos h h
theorem sq_pos {a b : Int} (h : ¬ (a = 0 ∧ b = 0)) : 0 < a * a + b * b := by
  have h1 : 0 ≤ a * a := sqn a
  have h2 : 0 ≤ b * b := sqn b
  have h3 : a * a = 0 → a = 0 := fun e => by rcases Int.mul_eq_zero.1 e with e | e <;> exact e
  have h4 : b * b = 0 → b = 0 := fun e => by rcases Int.mul_eq_zero.1 e with e | e <;> exact e
  by_cases ha : a * a = 0
  · by_cases hb : b * b = 0
    · exact absurd ⟨h3 ha, h4 hb⟩ h
    · omega
  · omega
theorem mul_nonneg' {x y : Int} (hx : 0 ≤ x) (hy : 0 ≤ y) : 0 ≤ x * y := Int.mul_nonneg hx hy

/-- In one half: in a row, the first one comes before the third one. -/
theorem up_trans {a1 a2 b1 b2 c1 c2 : Int} (ha : 0 < a2 ∨ (a2 = 0 ∧ 0 < a1)) (hb : 0 < b2 ∨ (b2 = 0 ∧ 0 < b1)) (hc : 0 < c2 ∨ (c2 = 0 ∧ 0 < c1))
    (h1 : 0 < a1 * b2 - a2 * b1) (h2 : 0 < b1 * c2 - b2 * c1) : 0 < a1 * c2 - a2 * c1 := by
  have hid : b2 * (a1 * c2 - a2 * c1) = c2 * (a1 * b2 - a2 * b1) + a2 * (b1 * c2 - b2 * c1) := by grind
  have hb2 : 0 < b2 := by
    rcases hb with hb | ⟨hb, hb1⟩
    · exact hb
    · subst hb
      exfalso
      rcases ha with ha | ⟨ha, ha1⟩
      · have := mul_pp ha hb1; simp at h1; omega
      · subst ha; simp at h1
  have hc2 : 0 < c2 := by
    rcases hc with hc | ⟨hc, hc1⟩
    · exact hc
    · subst hc
      exfalso
      have := mul_pp hb2 hc1
      simp at h2; omega
  have ha2 : 0 ≤ a2 := by omega
  have k1 := mul_pp hc2 h1
  have k2 := mul_nonneg' ha2 (Int.le_of_lt h2)
  exact pos_of hb2 (by omega)
theorem dn_trans {a1 a2 b1 b2 c1 c2 : Int} (ha : a2 < 0 ∨ (a2 = 0 ∧ a1 < 0)) (hb : b2 < 0 ∨ (b2 = 0 ∧ b1 < 0)) (hc : c2 < 0 ∨ (c2 = 0 ∧ c1 < 0))
    (h1 : 0 < a1 * b2 - a2 * b1) (h2 : 0 < b1 * c2 - b2 * c1) : 0 < a1 * c2 - a2 * c1 := by
  have := up_trans (a1 := -a1) (a2 := -a2) (b1 := -b1) (b2 := -b2) (c1 := -c1) (c2 := -c2) (by omega) (by omega) (by omega)
    (by have e : -a1 * -b2 - -a2 * -b1 = a1 * b2 - a2 * b1 := by grind
        omega)
    (by have e : -b1 * -c2 - -b2 * -c1 = b1 * c2 - b2 * c1 := by grind
        omega)
  have e : -a1 * -c2 - -a2 * -c1 = a1 * c2 - a2 * c1 := by grind
  omega
/-- And with 'not less'. -/
theorem up_trans0 {a1 a2 b1 b2 c1 c2 : Int} (ha : 0 < a2 ∨ (a2 = 0 ∧ 0 < a1)) (hb : 0 < b2 ∨ (b2 = 0 ∧ 0 < b1)) (hc : 0 < c2 ∨ (c2 = 0 ∧ 0 < c1))
    (h1 : 0 ≤ a1 * b2 - a2 * b1) (h2 : 0 ≤ b1 * c2 - b2 * c1) : 0 ≤ a1 * c2 - a2 * c1 := by
  have hid : b2 * (a1 * c2 - a2 * c1) = c2 * (a1 * b2 - a2 * b1) + a2 * (b1 * c2 - b2 * c1) := by grind
  rcases hb with hb | ⟨hb, hb1⟩
  · have k1 := mul_nonneg' (show 0 ≤ c2 by omega) h1
    have k2 := mul_nonneg' (show 0 ≤ a2 by omega) h2
    rcases Int.lt_or_le (a1 * c2 - a2 * c1) 0 with h | h
    · have := mul_pn hb h; omega
    · exact h
  · subst hb
    have ha2 : a2 = 0 := by
      rcases ha with ha | ha
      · have := mul_pp ha hb1; simp at h1; omega
      · exact ha.1
    subst ha2
    simp
    rcases ha with ha | ha
    · omega
    · exact mul_nonneg' (Int.le_of_lt ha.2) (by omega)
theorem dn_trans0 {a1 a2 b1 b2 c1 c2 : Int} (ha : a2 < 0 ∨ (a2 = 0 ∧ a1 < 0)) (hb : b2 < 0 ∨ (b2 = 0 ∧ b1 < 0)) (hc : c2 < 0 ∨ (c2 = 0 ∧ c1 < 0))
    (h1 : 0 ≤ a1 * b2 - a2 * b1) (h2 : 0 ≤ b1 * c2 - b2 * c1) : 0 ≤ a1 * c2 - a2 * c1 := by
  have := up_trans0 (a1 := -a1) (a2 := -a2) (b1 := -b1) (b2 := -b2) (c1 := -c1) (c2 := -c2) (by omega) (by omega) (by omega)
    (by have e : -a1 * -b2 - -a2 * -b1 = a1 * b2 - a2 * b1 := by grind
        omega)
    (by have e : -b1 * -c2 - -b2 * -c1 = b1 * c2 - b2 * c1 := by grind
        omega)
  have e : -a1 * -c2 - -a2 * -c1 = a1 * c2 - a2 * c1 := by grind
  omega
theorem cross_anti (a b c d : Int) : c * b - d * a = -(a * d - b * c) := by grind
theorem cross_self (a b : Int) : a * b - b * a = 0 := by grind
theorem bef_irrefl (a b : Int) : ¬ Bef a b a b := by
  unfold Bef; rw [cross_self]; omega
theorem bef_asymm {a b c d : Int} (h : Bef a b c d) : ¬ Bef c d a b := by
  unfold Bef at h ⊢; rw [cross_anti]; omega
theorem bef_trans {a1 a2 b1 b2 c1 c2 : Int} (ha : ¬ (a1 = 0 ∧ a2 = 0)) (hb : ¬ (b1 = 0 ∧ b2 = 0)) (hc : ¬ (c1 = 0 ∧ c2 = 0)) (h1 : Bef a1 a2 b1 b2) (h2 : Bef b1 b2 c1 c2) : Bef a1 a2 c1 c2 := by
  unfold Bef at *
  have A := half_cases a1 a2; have B := half_cases b1 b2; have C := half_cases c1 c2
  have A' := @half_nil a1 a2; have B' := @half_nil b1 b2; have C' := @half_nil c1 c2
  rcases h1 with h1 | ⟨h1, k1⟩
  · left; omega
  · rcases h2 with h2 | ⟨h2, k2⟩
    · left; omega
    · right
      refine ⟨by omega, ?_⟩
      rcases A with A | A | A
      · exact absurd (A'.1 A) ha
      · exact up_trans (half_0.1 A) (half_0.1 (by omega)) (half_0.1 (by omega)) k1 k2
      · exact dn_trans (half_1.1 A) (half_1.1 (by omega)) (half_1.1 (by omega)) k1 k2
/-- 'Not before' goes on, too. -/
theorem nbef_trans {a1 a2 b1 b2 c1 c2 : Int} (ha : ¬ (a1 = 0 ∧ a2 = 0)) (hb : ¬ (b1 = 0 ∧ b2 = 0)) (hc : ¬ (c1 = 0 ∧ c2 = 0)) (h1 : ¬ Bef b1 b2 a1 a2) (h2 : ¬ Bef c1 c2 b1 b2) : ¬ Bef c1 c2 a1 a2 := by
  unfold Bef at *
  have A := half_cases a1 a2; have B := half_cases b1 b2; have C := half_cases c1 c2
  have A' := @half_nil a1 a2; have B' := @half_nil b1 b2; have C' := @half_nil c1 c2
  rw [cross_anti a1 a2 b1 b2] at h1
  rw [cross_anti b1 b2 c1 c2] at h2
  rw [cross_anti a1 a2 c1 c2]
  by_cases e1 : halfI b1 b2 = halfI a1 a2
  · by_cases e2 : halfI c1 c2 = halfI b1 b2
    · have k : 0 ≤ a1 * c2 - a2 * c1 := by
        rcases A with A | A | A
        · exact absurd (A'.1 A) ha
        · exact up_trans0 (b1 := b1) (b2 := b2) (half_0.1 A) (half_0.1 (by omega)) (half_0.1 (by omega)) (by omega) (by omega)
        · exact dn_trans0 (b1 := b1) (b2 := b2) (half_1.1 A) (half_1.1 (by omega)) (half_1.1 (by omega)) (by omega) (by omega)
      omega
    · omega
  · omega
theorem bef_two (a b c d : Int) : Bef (2 * a) (2 * b) c d ↔ Bef a b c d := by
  unfold Bef
  rw [half_two]
  have e : 2 * a * d - 2 * b * c = 2 * (a * d - b * c) := by grind
  rw [e]; omega
theorem bef_two' (a b c d : Int) : Bef c d (2 * a) (2 * b) ↔ Bef c d a b := by
  unfold Bef
  rw [half_two]
  have e : c * (2 * b) - d * (2 * a) = 2 * (c * b - d * a) := by grind
  rw [e]; omega
/-- The same direction: no cross, and together. -/
theorem same_iff {a b c d : Int} (h1 : ¬ (a = 0 ∧ b = 0)) (h2 : ¬ (c = 0 ∧ d = 0)) : (¬ Bef a b c d ∧ ¬ Bef c d a b) ↔ (a * d - b * c = 0 ∧ 0 < a * c + b * d) := by
  have hid : (a * c + b * d) * (a * c + b * d) + (a * d - b * c) * (a * d - b * c) = (a * a + b * b) * (c * c + d * d) := by grind
  have hp := mul_pp (sq_pos h1) (sq_pos h2)
  unfold Bef
  rw [cross_anti a b c d]
  have A := half_cases a b; have B := half_cases c d
  have A' := @half_nil a b; have B' := @half_nil c d
  have A0 := @half_0 a b; have B0 := @half_0 c d; have A1 := @half_1 a b; have B1 := @half_1 c d
  constructor
  · rintro ⟨k1, k2⟩
    have hx : a * d - b * c = 0 := by omega
    have hh : halfI a b = halfI c d := by omega
    refine ⟨hx, ?_⟩
    have key : ∀ p q r s : Int, (0 < q ∨ (q = 0 ∧ 0 < p)) → (0 < s ∨ (s = 0 ∧ 0 < r)) → p * s - q * r = 0 → 0 < p * r + q * s := by
      intro p q r s hp hs hz
      rcases hp with hq | ⟨rfl, hp⟩
      · rcases hs with hs | ⟨rfl, hr⟩
        · have m := mul_pp hq hs
          have e : q * s * (p * r) = (p * s) * (q * r) := by grind
          have e2 : p * s = q * r := by omega
          have e3 : 0 ≤ (q * s) * (p * r) := by rw [e, e2]; exact sqn _
          rcases Int.lt_or_le (p * r) 0 with h | h
          · have := mul_pn m h; omega
          · omega
        · have := mul_pp hq hr; simp at hz; omega
      · rcases hs with hs | ⟨rfl, hr⟩
        · have := mul_pp hp hs; simp at hz; omega
        · have := mul_pp hp hr; simp; omega
    rcases A with A | A | A
    · exact absurd (A'.1 A) h1
    · exact key a b c d (A0.1 A) (B0.1 (by omega)) hx
    · have := key (-a) (-b) (-c) (-d) (by have := A1.1 A; omega) (by have := B1.1 (by omega); omega) (by have e : -a * -d - -b * -c = a * d - b * c := by grind
                                                                                                         omega)
      have e : -a * -c + -b * -d = a * c + b * d := by grind
      omega
  · rintro ⟨hx, hd⟩
    rw [hx]
    have key : ∀ p q r s : Int, (0 < q ∨ (q = 0 ∧ 0 < p)) → (s < 0 ∨ (s = 0 ∧ r < 0)) → p * s - q * r = 0 → p * r + q * s < 0 := by
      intro p q r s hp hs hz
      rcases hp with hq | ⟨rfl, hp⟩
      · rcases hs with hs | ⟨rfl, hr⟩
        · have m := mul_pn hq hs
          have e : q * s * (p * r) = (p * s) * (q * r) := by grind
          have e2 : p * s = q * r := by omega
          have e3 : 0 ≤ (q * s) * (p * r) := by rw [e, e2]; exact sqn _
          rcases Int.lt_or_le 0 (p * r) with h | h
          · have := mul_np m h; omega
          · omega
        · have := mul_pn hq hr; simp at hz; omega
      · rcases hs with hs | ⟨rfl, hr⟩
        · have := mul_pn hp hs; simp at hz; omega
        · have := mul_pn hp hr; simp; omega
    have hh : halfI a b = halfI c d := by
      rcases A with A | A | A
      · exact absurd (A'.1 A) h1
      · rcases B with B | B | B
        · exact absurd (B'.1 B) h2
        · omega
        · have := key a b c d (A0.1 A) (B1.1 B) hx; omega
      · rcases B with B | B | B
        · exact absurd (B'.1 B) h2
        · have := key c d a b (B0.1 B) (A1.1 A) (by rw [cross_anti a b c d]; omega)
          have e : c * a + d * b = a * c + b * d := by grind
          omega
        · omega
    omega
theorem swB_iff {a b c d : Int} : swB a b c d = true ↔ (wvB a b = true ∧ wvB c d = true ∧ a * d - b * c = 0 ∧ 0 < a * c + b * d) := by
  unfold swB
  simp only [Bool.and_eq_true, Bool.not_eq_true', ← Bool.not_eq_true, befB_iff]
  constructor
  · rintro ⟨⟨⟨h1, h2⟩, h3⟩, h4⟩
    have g1 := goB_iff.1 h1; have g2 := goB_iff.1 h2
    have := (same_iff g1.2 g2.2).1 ⟨h3, h4⟩
    exact ⟨wvB_iff.2 g1.1, wvB_iff.2 g2.1, this.1, this.2⟩
  · rintro ⟨h1, h2, h3, h4⟩
    have n1 : ¬ (a = 0 ∧ b = 0) := by rintro ⟨rfl, rfl⟩; simp at h4
    have n2 : ¬ (c = 0 ∧ d = 0) := by rintro ⟨rfl, rfl⟩; simp at h4
    have := (same_iff n1 n2).2 ⟨h3, h4⟩
    exact ⟨⟨⟨goB_iff.2 ⟨wvB_iff.1 h1, n1⟩, goB_iff.2 ⟨wvB_iff.1 h2, n2⟩⟩, this.1⟩, this.2⟩

/-- From one way round to another one. -/
def Btw (w1 w2 f1 f2 t1 t2 : Int) : Prop := swB w1 w2 f1 f2 = true ∨ Bef (w1 * f1 + w2 * f2) (w2 * f1 - w1 * f2) (t1 * f1 + t2 * f2) (t2 * f1 - t1 * f2)
theorem btw_core {x y z D E G F2 T2 W2 : Int} (hF : 0 < F2) (hW : 0 < W2)
    (i1 : F2 * z = D * y - x * E) (i2 : W2 * y = D * z + x * G) (i3 : F2 * G = D * E + x * y)
    (hx : x = 0 → D < 0) (hy : y = 0 → E < 0) (hz : z = 0 → G < 0) :
    ((halfI D x < halfI E y ∨ halfI D x = halfI E y ∧ 0 < F2 * z) ↔ ¬ (halfI G (-z) < halfI E (-y) ∨ halfI G (-z) = halfI E (-y) ∧ 0 < T2 * (-x))) ∨ T2 ≤ 0 := by
  by_cases hT : T2 ≤ 0
  · exact .inr hT
  left
  have hT' : 0 < T2 := by omega
  have zp : 0 < F2 * z ↔ 0 < z := ⟨pos_of hF, mul_pp hF⟩
  have xp : 0 < T2 * (-x) ↔ 0 < -x := ⟨pos_of hT', mul_pp hT'⟩
  rw [zp, xp]
  have h1 : x = 0 → (0 < z ↔ y < 0) ∧ (z < 0 ↔ 0 < y) := by
    intro e
    have hD := hx e
    subst e
    simp at i1
    constructor
    · constructor
      · intro h; have := mul_pp hF h; rcases Int.lt_trichotomy y 0 with k | k | k
        · exact k
        · subst k; simp at i1; omega
        · have := mul_np hD k; omega
      · intro h; have := mul_nn hD h; exact pos_of hF (by omega)
    · constructor
      · intro h; have := mul_pn hF h; rcases Int.lt_trichotomy y 0 with k | k | k
        · have := mul_nn hD k; omega
        · subst k; simp at i1; omega
        · exact k
      · intro h; have := mul_np hD h; exact neg_of hF (by omega)
  have h2 : y = 0 → (0 < z ↔ 0 < x) ∧ (z < 0 ↔ x < 0) := by
    intro e
    have hE := hy e
    subst e
    simp at i1
    constructor
    · constructor
      · intro h; have := mul_pp hF h; rcases Int.lt_trichotomy x 0 with k | k | k
        · have := mul_nn k hE; omega
        · subst k; simp at i1; omega
        · exact k
      · intro h; have := mul_pn h hE; exact pos_of hF (by omega)
    · constructor
      · intro h; have := mul_pn hF h; rcases Int.lt_trichotomy x 0 with k | k | k
        · exact k
        · subst k; simp at i1; omega
        · have := mul_pn k hE; omega
      · intro h; have := mul_nn h hE; exact neg_of hF (by omega)
  have h3 : z = 0 → (0 < y ↔ x < 0) ∧ (y < 0 ↔ 0 < x) := by
    intro e
    have hG := hz e
    subst e
    simp at i2
    constructor
    · constructor
      · intro h; have := mul_pp hW h; rcases Int.lt_trichotomy x 0 with k | k | k
        · exact k
        · subst k; simp at i2; omega
        · have := mul_pn k hG; omega
      · intro h; have := mul_nn h hG; exact pos_of hW (by omega)
    · constructor
      · intro h; have := mul_pn hW h; rcases Int.lt_trichotomy x 0 with k | k | k
        · have := mul_nn k hG; omega
        · subst k; simp at i2; omega
        · exact k
      · intro h; have := mul_pn h hG; exact neg_of hW (by omega)
  have hn : ¬ (x = 0 ∧ y = 0 ∧ z = 0) := by
    rintro ⟨e1, e2, e3⟩
    have hD := hx e1; have hE := hy e2; have hG := hz e3
    have := mul_nn hD hE
    subst e1
    simp at i3
    have := mul_pn hF hG
    omega
  have p1 : 0 < x → halfI D x = 0 := fun h => half_0.2 (.inl h)
  have p2 : ¬ 0 < x → halfI D x = 1 := fun h => half_1.2 (by rcases Int.lt_trichotomy x 0 with k | k | k <;> omega)
  have q1 : 0 < y → halfI E y = 0 := fun h => half_0.2 (.inl h)
  have q2 : ¬ 0 < y → halfI E y = 1 := fun h => half_1.2 (by rcases Int.lt_trichotomy y 0 with k | k | k <;> omega)
  have r1 : 0 < -z → halfI G (-z) = 0 := fun h => half_0.2 (.inl h)
  have r2 : ¬ 0 < -z → halfI G (-z) = 1 := fun h => half_1.2 (by rcases Int.lt_trichotomy z 0 with k | k | k <;> omega)
  have s1 : 0 < -y → halfI E (-y) = 0 := fun h => half_0.2 (.inl h)
  have s2 : ¬ 0 < -y → halfI E (-y) = 1 := fun h => half_1.2 (by rcases Int.lt_trichotomy y 0 with k | k | k <;> omega)
  clear xp zp hx hy hz i1 i2 i3
  generalize halfI D x = A at *
  generalize halfI E y = B at *
  generalize halfI G (-z) = C at *
  generalize halfI E (-y) = K at *
  rcases Int.lt_trichotomy x 0 with kx | kx | kx <;> rcases Int.lt_trichotomy y 0 with ky | ky | ky <;> rcases Int.lt_trichotomy z 0 with kz | kz | kz <;> omega
theorem not_swB {a b c d : Int} (h1 : wvB a b = true) (h2 : wvB c d = true) (h : swB a b c d = false) (hz : a * d - b * c = 0) (hn : ¬ (a = 0 ∧ b = 0)) (hm : ¬ (c = 0 ∧ d = 0)) : a * c + b * d < 0 := by
  have hid : (a * c + b * d) * (a * c + b * d) + (a * d - b * c) * (a * d - b * c) = (a * a + b * b) * (c * c + d * d) := by grind
  have hp := mul_pp (sq_pos hn) (sq_pos hm)
  rw [hz] at hid
  have h0 : a * c + b * d ≠ 0 := by intro e; rw [e] at hid; simp at hid; omega
  have : ¬ 0 < a * c + b * d := by
    intro k
    have := swB_iff.2 ⟨h1, h2, hz, k⟩
    rw [h] at this; cases this
  omega
/-- Of three different directions: between the first and the second, or between the second and the first. -/
theorem btw_not {w1 w2 f1 f2 t1 t2 : Int} (hw : goB w1 w2 = true) (hf : goB f1 f2 = true) (ht : goB t1 t2 = true) (a1 : swB w1 w2 f1 f2 = false) (a2 : swB w1 w2 t1 t2 = false) (a3 : swB f1 f2 t1 t2 = false) :
    Bef (w1 * f1 + w2 * f2) (w2 * f1 - w1 * f2) (t1 * f1 + t2 * f2) (t2 * f1 - t1 * f2) ↔ ¬ Bef (w1 * t1 + w2 * t2) (w2 * t1 - w1 * t2) (f1 * t1 + f2 * t2) (f2 * t1 - f1 * t2) := by
  have gw := goB_iff.1 hw; have gf := goB_iff.1 hf; have gt := goB_iff.1 ht
  have h := btw_core (x := w2 * f1 - w1 * f2) (y := t2 * f1 - t1 * f2) (z := w1 * t2 - w2 * t1) (D := w1 * f1 + w2 * f2) (E := t1 * f1 + t2 * f2) (G := w1 * t1 + w2 * t2) (F2 := f1 * f1 + f2 * f2) (T2 := t1 * t1 + t2 * t2) (W2 := w1 * w1 + w2 * w2)
    (sq_pos gf.2) (sq_pos gw.2) (by grind) (by grind) (by grind)
    (fun e => not_swB (wvB_iff.2 gw.1) (wvB_iff.2 gf.1) a1 (by omega) gw.2 gf.2)
    (fun e => by have := not_swB (wvB_iff.2 gf.1) (wvB_iff.2 gt.1) a3 (by have e2 : f1 * t2 - f2 * t1 = t2 * f1 - t1 * f2 := by grind
                                                                          omega) gf.2 gt.2
                 have e2 : f1 * t1 + f2 * t2 = t1 * f1 + t2 * f2 := by grind
                 omega)
    (fun e => not_swB (wvB_iff.2 gw.1) (wvB_iff.2 gt.1) a2 e gw.2 gt.2)
  have hT := sq_pos gt.2
  have h' := h.resolve_right (by omega)
  unfold Bef
  have e1 : (w1 * f1 + w2 * f2) * (t2 * f1 - t1 * f2) - (w2 * f1 - w1 * f2) * (t1 * f1 + t2 * f2) = (f1 * f1 + f2 * f2) * (w1 * t2 - w2 * t1) := by grind
  have e2 : (w1 * t1 + w2 * t2) * (f2 * t1 - f1 * t2) - (w2 * t1 - w1 * t2) * (f1 * t1 + f2 * t2) = (t1 * t1 + t2 * t2) * (-(w2 * f1 - w1 * f2)) := by grind
  have e3 : w2 * t1 - w1 * t2 = -(w1 * t2 - w2 * t1) := by grind
  have e4 : f1 * t1 + f2 * t2 = t1 * f1 + t2 * f2 := by grind
  have e5 : f2 * t1 - f1 * t2 = -(t2 * f1 - t1 * f2) := by grind
  rw [e1, e2, e3, e4, e5]
  exact h'
end Go.Proofs.Ytibpaojhjgpdaaa
