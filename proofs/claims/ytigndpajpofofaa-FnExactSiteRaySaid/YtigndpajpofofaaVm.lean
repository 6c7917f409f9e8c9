/- Shadows: plain mathematics of chapter 5. -/
namespace Go.Proofs.Ytigndpajpofofaa
set_option linter.unusedVariables false
set_option linter.unusedSimpArgs false

def inV (n a b : Int) : Bool := decide (a ≤ n ∧ n ≤ b)
def plB (e n : Int) : Bool := decide (-50 ≤ e ∧ e ≤ 50 ∧ -50 ≤ n ∧ n ≤ 50)
def blB (a b c d h : Int) : Bool := decide (-50 ≤ a ∧ a < b ∧ b ≤ 50 ∧ -50 ≤ c ∧ c < d ∧ d ≤ 50 ∧ 1 ≤ h ∧ h ≤ 30)
def ryB (e n u : Int) : Bool := decide (-20 ≤ e ∧ e ≤ 20 ∧ -20 ≤ n ∧ n ≤ 20 ∧ 1 ≤ u ∧ u ≤ 20)
def unB (e n a b c d h : Int) : Bool := plB e n && blB a b c d h && decide (a ≤ e ∧ e ≤ b ∧ c ≤ n ∧ n ≤ d)
theorem plB_iff {e n : Int} : plB e n = true ↔ -50 ≤ e ∧ e ≤ 50 ∧ -50 ≤ n ∧ n ≤ 50 := by unfold plB; simp
theorem blB_iff {a b c d h : Int} : blB a b c d h = true ↔ -50 ≤ a ∧ a < b ∧ b ≤ 50 ∧ -50 ≤ c ∧ c < d ∧ d ≤ 50 ∧ 1 ≤ h ∧ h ≤ 30 := by unfold blB; simp
theorem ryB_iff {e n u : Int} : ryB e n u = true ↔ -20 ≤ e ∧ e ≤ 20 ∧ -20 ≤ n ∧ n ≤ 20 ∧ 1 ≤ u ∧ u ≤ 20 := by unfold ryB; simp
theorem unB_iff {e n a b c d h : Int} : unB e n a b c d h = true ↔ plB e n = true ∧ blB a b c d h = true ∧ a ≤ e ∧ e ≤ b ∧ c ≤ n ∧ n ≤ d := by unfold unB; simp [and_assoc]
theorem plB_turn (e n : Int) : plB (-n) e = plB e n := by rw [Bool.eq_iff_iff, plB_iff, plB_iff]; omega
theorem ryB_turn (e n u : Int) : ryB (-n) e u = ryB e n u := by rw [Bool.eq_iff_iff, ryB_iff, ryB_iff]; omega
theorem blB_turn (a b c d h : Int) : blB (-d) (-c) a b h = blB a b c d h := by rw [Bool.eq_iff_iff, blB_iff, blB_iff]; omega

/-- The start and the end, over a denominator, of the fractions for which a number that begins with p and grows by r stays in lo..hi. -/
def sN (p r lo hi : Int) : Int := if 0 < r then lo - p else if r < 0 then p - hi else if lo ≤ p ∧ p ≤ hi then 0 else 1
def eN (p r lo hi : Int) : Int := if 0 < r then hi - p else if r < 0 then p - lo else if lo ≤ p ∧ p ≤ hi then 30 else 0
def dN (r : Int) : Int := if 0 < r then r else if r < 0 then -r else 1
theorem dN_pos (r : Int) : 0 < dN r := by unfold dN; split <;> (try split) <;> omega
theorem dN_le {r : Int} (h0 : -20 ≤ r) (h1 : r ≤ 20) : dN r ≤ 20 := by unfold dN; split <;> (try split) <;> omega
theorem sN_bd {p r lo hi : Int} (h0 : -50 ≤ p) (h1 : p ≤ 50) (h2 : -50 ≤ lo) (h3 : lo ≤ 50) (h4 : -50 ≤ hi) (h5 : hi ≤ 50) : -100 ≤ sN p r lo hi ∧ sN p r lo hi ≤ 100 := by
  unfold sN; split <;> (try split) <;> (try split) <;> omega
theorem eN_bd {p r lo hi : Int} (h0 : -50 ≤ p) (h1 : p ≤ 50) (h2 : -50 ≤ lo) (h3 : lo ≤ 50) (h4 : -50 ≤ hi) (h5 : hi ≤ 50) : -100 ≤ eN p r lo hi ∧ eN p r lo hi ≤ 100 := by
  unfold eN; split <;> (try split) <;> (try split) <;> omega

/-- A fraction is at most another one. -/
def Le (s d e f : Int) : Prop := s * f ≤ e * d
instance (s d e f : Int) : Decidable (Le s d e f) := by unfold Le; infer_instance
theorem Le.trans {a b c d e f : Int} (hb : 0 < b) (hd : 0 < d) (hf : 0 < f) (h1 : Le a b c d) (h2 : Le c d e f) : Le a b e f := by
  unfold Le at *
  have e1 := Int.mul_le_mul_of_nonneg_right h1 (Int.le_of_lt hf)
  have e2 := Int.mul_le_mul_of_nonneg_right h2 (Int.le_of_lt hb)
  refine Int.le_of_mul_le_mul_right (a := d) ?_ hd
  have q1 : a * f * d = a * d * f := by grind
  have q2 : e * b * d = e * d * b := by grind
  have q3 : c * b * f = c * f * b := by grind
  rw [q1, q2]; omega
theorem Le.total (a b c d : Int) : Le a b c d ∨ Le c d a b := by unfold Le; omega
theorem Le.refl (a b : Int) : Le a b a b := by unfold Le; omega

def maxF (x y : Int × Int) : Int × Int := if x.1 * y.2 < y.1 * x.2 then y else x
def minF (x y : Int × Int) : Int × Int := if y.1 * x.2 < x.1 * y.2 then y else x
theorem maxF_cases (x y : Int × Int) : (maxF x y = x ∧ Le y.1 y.2 x.1 x.2) ∨ (maxF x y = y ∧ Le x.1 x.2 y.1 y.2) := by
  unfold maxF Le; split
  · exact .inr ⟨rfl, by omega⟩
  · exact .inl ⟨rfl, by omega⟩
theorem minF_cases (x y : Int × Int) : (minF x y = x ∧ Le x.1 x.2 y.1 y.2) ∨ (minF x y = y ∧ Le y.1 y.2 x.1 x.2) := by
  unfold minF Le; split
  · exact .inr ⟨rfl, by omega⟩
  · exact .inl ⟨rfl, by omega⟩
theorem maxF_pos {x y : Int × Int} (hx : 0 < x.2) (hy : 0 < y.2) : 0 < (maxF x y).2 := by unfold maxF; split <;> assumption
theorem minF_pos {x y : Int × Int} (hx : 0 < x.2) (hy : 0 < y.2) : 0 < (minF x y).2 := by unfold minF; split <;> assumption
/-- At most the greater one's limit: both are. -/
theorem maxF_le {x y : Int × Int} (hx : 0 < x.2) (hy : 0 < y.2) {e f : Int} (hf : 0 < f) : Le (maxF x y).1 (maxF x y).2 e f ↔ Le x.1 x.2 e f ∧ Le y.1 y.2 e f := by
  rcases maxF_cases x y with ⟨h, g⟩ | ⟨h, g⟩ <;> rw [h]
  · exact ⟨fun k => ⟨k, Le.trans hy hx hf g k⟩, fun k => k.1⟩
  · exact ⟨fun k => ⟨Le.trans hx hy hf g k, k⟩, fun k => k.2⟩
theorem le_minF {x y : Int × Int} (hx : 0 < x.2) (hy : 0 < y.2) {s d : Int} (hd : 0 < d) : Le s d (minF x y).1 (minF x y).2 ↔ Le s d x.1 x.2 ∧ Le s d y.1 y.2 := by
  rcases minF_cases x y with ⟨h, g⟩ | ⟨h, g⟩ <;> rw [h]
  · exact ⟨fun k => ⟨k, Le.trans hd hx hy k g⟩, fun k => k.1⟩
  · exact ⟨fun k => ⟨Le.trans hd hy hx k g, k⟩, fun k => k.2⟩

/-- Each start of three intervals is at most each end. -/
def Prs (s1 e1 d1 s2 e2 d2 s3 e3 d3 : Int) : Prop :=
  (Le s1 d1 e1 d1 ∧ Le s1 d1 e2 d2 ∧ Le s1 d1 e3 d3) ∧ (Le s2 d2 e1 d1 ∧ Le s2 d2 e2 d2 ∧ Le s2 d2 e3 d3) ∧ (Le s3 d3 e1 d1 ∧ Le s3 d3 e2 d2 ∧ Le s3 d3 e3 d3)
instance (s1 e1 d1 s2 e2 d2 s3 e3 d3 : Int) : Decidable (Prs s1 e1 d1 s2 e2 d2 s3 e3 d3) := by unfold Prs; infer_instance
def topF (s1 d1 s2 d2 s3 d3 : Int) : Int × Int := maxF (maxF (s1, d1) (s2, d2)) (s3, d3)
def lowF (e1 d1 e2 d2 e3 d3 : Int) : Int × Int := minF (minF (e1, d1) (e2, d2)) (e3, d3)
theorem prs_iff {s1 e1 d1 s2 e2 d2 s3 e3 d3 : Int} (h1 : 0 < d1) (h2 : 0 < d2) (h3 : 0 < d3) :
    Le (topF s1 d1 s2 d2 s3 d3).1 (topF s1 d1 s2 d2 s3 d3).2 (lowF e1 d1 e2 d2 e3 d3).1 (lowF e1 d1 e2 d2 e3 d3).2 ↔ Prs s1 e1 d1 s2 e2 d2 s3 e3 d3 := by
  have m1 : 0 < (maxF (s1, d1) (s2, d2)).2 := maxF_pos h1 h2
  have n1 : 0 < (minF (e1, d1) (e2, d2)).2 := minF_pos h1 h2
  have n2 : 0 < (lowF e1 d1 e2 d2 e3 d3).2 := minF_pos n1 h3
  have k3 : 0 < ((s3, d3) : Int × Int).2 := h3
  have j3 : 0 < ((e3, d3) : Int × Int).2 := h3
  have k2 : 0 < ((s2, d2) : Int × Int).2 := h2
  have k1 : 0 < ((s1, d1) : Int × Int).2 := h1
  have j2 : 0 < ((e2, d2) : Int × Int).2 := h2
  have j1 : 0 < ((e1, d1) : Int × Int).2 := h1
  unfold topF
  rw [maxF_le m1 k3 n2, maxF_le k1 k2 n2]
  unfold lowF
  rw [le_minF n1 j3 h1, le_minF n1 j3 h2, le_minF n1 j3 h3, le_minF j1 j2 h1, le_minF j1 j2 h2, le_minF j1 j2 h3]
  unfold Prs
  constructor
  · rintro ⟨⟨⟨⟨a1, a2⟩, a3⟩, ⟨⟨b1, b2⟩, b3⟩⟩, ⟨⟨c1, c2⟩, c3⟩⟩; exact ⟨⟨a1, a2, a3⟩, ⟨b1, b2, b3⟩, ⟨c1, c2, c3⟩⟩
  · rintro ⟨⟨a1, a2, a3⟩, ⟨b1, b2, b3⟩, ⟨c1, c2, c3⟩⟩; exact ⟨⟨⟨⟨a1, a2⟩, a3⟩, ⟨⟨b1, b2⟩, b3⟩⟩, ⟨⟨c1, c2⟩, c3⟩⟩
/-- Then some fraction is in all of them. -/
theorem prs_some {s1 e1 d1 s2 e2 d2 s3 e3 d3 : Int} (h1 : 0 < d1) (h2 : 0 < d2) (h3 : 0 < d3) :
    Prs s1 e1 d1 s2 e2 d2 s3 e3 d3 ↔ ∃ x y : Int, 0 < y ∧ (Le s1 d1 x y ∧ Le s2 d2 x y ∧ Le s3 d3 x y) ∧ (Le x y e1 d1 ∧ Le x y e2 d2 ∧ Le x y e3 d3) := by
  constructor
  · intro h
    have hl := (prs_iff (s1 := s1) (e1 := e1) (s2 := s2) (e2 := e2) (s3 := s3) (e3 := e3) h1 h2 h3).2 h
    have m1 : 0 < (maxF (s1, d1) (s2, d2)).2 := maxF_pos h1 h2
    have n1 : 0 < (minF (e1, d1) (e2, d2)).2 := minF_pos h1 h2
    have m2 : 0 < (topF s1 d1 s2 d2 s3 d3).2 := maxF_pos m1 h3
    have k3 : 0 < ((s3, d3) : Int × Int).2 := h3
    have j3 : 0 < ((e3, d3) : Int × Int).2 := h3
    have k2 : 0 < ((s2, d2) : Int × Int).2 := h2
    have k1 : 0 < ((s1, d1) : Int × Int).2 := h1
    have j2 : 0 < ((e2, d2) : Int × Int).2 := h2
    have j1 : 0 < ((e1, d1) : Int × Int).2 := h1
    have key : ∀ z : Int × Int, 0 < z.2 → Le (topF s1 d1 s2 d2 s3 d3).1 (topF s1 d1 s2 d2 s3 d3).2 z.1 z.2 → Le s1 d1 z.1 z.2 ∧ Le s2 d2 z.1 z.2 ∧ Le s3 d3 z.1 z.2 := by
      intro z hz g
      unfold topF at g
      rw [maxF_le m1 k3 hz, maxF_le k1 k2 hz] at g
      exact ⟨g.1.1, g.1.2, g.2⟩
    have hs' := key (topF s1 d1 s2 d2 s3 d3) m2 (Le.refl _ _)
    unfold lowF at hl
    rw [le_minF n1 j3 m2, le_minF j1 j2 m2] at hl
    exact ⟨_, _, m2, hs', ⟨hl.1.1, hl.1.2, hl.2⟩⟩
  · rintro ⟨x, y, hy, ⟨a1, a2, a3⟩, ⟨b1, b2, b3⟩⟩
    exact ⟨⟨Le.trans h1 hy h1 a1 b1, Le.trans h1 hy h2 a1 b2, Le.trans h1 hy h3 a1 b3⟩, ⟨Le.trans h2 hy h1 a2 b1, Le.trans h2 hy h2 a2 b2, Le.trans h2 hy h3 a2 b3⟩, ⟨Le.trans h3 hy h1 a3 b1, Le.trans h3 hy h2 a3 b2, Le.trans h3 hy h3 a3 b3⟩⟩

/-- A number is between both sides at a fraction x / y. -/
def Sid (p r lo hi x y : Int) : Prop := lo * y ≤ p * y + r * x ∧ p * y + r * x ≤ hi * y
theorem sid_iff {p r lo hi x y : Int} (hy : 0 < y) (hx : 0 ≤ x) (hx' : x ≤ 30 * y) : (Le (sN p r lo hi) (dN r) x y ∧ Le x y (eN p r lo hi) (dN r)) ↔ Sid p r lo hi x y := by
  unfold Le Sid sN eN dN
  by_cases h : 0 < r
  · simp only [if_pos h]
    rw [Int.sub_mul, Int.sub_mul, Int.mul_comm x r]; omega
  · simp only [if_neg h]
    by_cases h' : r < 0
    · simp only [if_pos h']
      rw [Int.sub_mul, Int.sub_mul, Int.mul_neg, Int.mul_comm x r]; omega
    · simp only [if_neg h']
      obtain rfl : r = 0 := by omega
      simp only [Int.zero_mul, Int.add_zero, Int.mul_one]
      have lem : ∀ a b : Int, a * y ≤ b * y ↔ a ≤ b := fun a b => ⟨fun k => Int.le_of_mul_le_mul_right k hy, fun k => Int.mul_le_mul_of_nonneg_right k (Int.le_of_lt hy)⟩
      rw [lem, lem]
      by_cases hp : lo ≤ p ∧ p ≤ hi
      · simp only [if_pos hp]; omega
      · simp only [if_neg hp]; omega
/-- The way from a place to the sun meets a block. -/
def Meet (pe pn a b c d h re rn ru : Int) : Prop := ∃ x y : Int, 0 < y ∧ 0 ≤ x ∧ Sid pe re a b x y ∧ Sid pn rn c d x y ∧ ru * x ≤ h * y
def PrM (pe pn a b c d h re rn ru : Int) : Prop := Prs (sN pe re a b) (eN pe re a b) (dN re) (sN pn rn c d) (eN pn rn c d) (dN rn) 0 h ru
instance (pe pn a b c d h re rn ru : Int) : Decidable (PrM pe pn a b c d h re rn ru) := by unfold PrM; infer_instance
theorem far {h ru x y : Int} (hu : 1 ≤ ru) (hh : h ≤ 30) (hy : 0 < y) (hx : 0 ≤ x) (hl : ru * x ≤ h * y) : x ≤ 30 * y := by
  have e1 : 1 * x ≤ ru * x := Int.mul_le_mul_of_nonneg_right hu hx
  have e2 : h * y ≤ 30 * y := Int.mul_le_mul_of_nonneg_right hh (Int.le_of_lt hy)
  omega
theorem prM_iff {pe pn a b c d h re rn ru : Int} (hu : 1 ≤ ru) (hh : h ≤ 30) : PrM pe pn a b c d h re rn ru ↔ Meet pe pn a b c d h re rn ru := by
  unfold PrM Meet
  rw [prs_some (dN_pos _) (dN_pos _) (by omega)]
  constructor
  · rintro ⟨x, y, hy, ⟨a1, a2, a3⟩, ⟨b1, b2, b3⟩⟩
    have hx : 0 ≤ x := by
      unfold Le at a3
      rcases Int.lt_or_le x 0 with g | g
      · have := Int.mul_neg_of_neg_of_pos g (show 0 < ru by omega); omega
      · exact g
    have hl : ru * x ≤ h * y := by unfold Le at b3; rw [Int.mul_comm ru x]; exact b3
    have hf := far hu hh hy hx hl
    exact ⟨x, y, hy, hx, (sid_iff hy hx hf).1 ⟨a1, b1⟩, (sid_iff hy hx hf).1 ⟨a2, b2⟩, hl⟩
  · rintro ⟨x, y, hy, hx, h1, h2, hl⟩
    have hf := far hu hh hy hx hl
    obtain ⟨a1, b1⟩ := (sid_iff hy hx hf).2 h1
    obtain ⟨a2, b2⟩ := (sid_iff hy hx hf).2 h2
    refine ⟨x, y, hy, ⟨a1, a2, ?_⟩, ⟨b1, b2, ?_⟩⟩
    · unfold Le; have := Int.mul_nonneg hx (show 0 ≤ ru by omega); omega
    · unfold Le; rw [Int.mul_comm x ru]; exact hl
def shB (pe pn a b c d h re rn ru : Int) : Bool := plB pe pn && (blB a b c d h && (ryB re rn ru && decide (PrM pe pn a b c d h re rn ru)))
theorem shB_iff {pe pn a b c d h re rn ru : Int} : shB pe pn a b c d h re rn ru = true ↔ plB pe pn = true ∧ blB a b c d h = true ∧ ryB re rn ru = true ∧ Meet pe pn a b c d h re rn ru := by
  unfold shB
  rw [Bool.and_eq_true, Bool.and_eq_true, Bool.and_eq_true, decide_eq_true_iff]
  constructor
  · rintro ⟨h1, h2, h3, h4⟩
    have b2 := blB_iff.1 h2; have b3 := ryB_iff.1 h3
    exact ⟨h1, h2, h3, (prM_iff (by omega) (by omega)).1 h4⟩
  · rintro ⟨h1, h2, h3, h4⟩
    have b2 := blB_iff.1 h2; have b3 := ryB_iff.1 h3
    exact ⟨h1, h2, h3, (prM_iff (by omega) (by omega)).2 h4⟩
theorem shB_f1 {pe pn a b c d h re rn ru : Int} (hp : plB pe pn = false) : shB pe pn a b c d h re rn ru = false := by unfold shB; rw [hp]; rfl
theorem shB_f2 {pe pn a b c d h re rn ru : Int} (hp : blB a b c d h = false) : shB pe pn a b c d h re rn ru = false := by unfold shB; rw [hp]; simp
theorem shB_f3 {pe pn a b c d h re rn ru : Int} (hp : ryB re rn ru = false) : shB pe pn a b c d h re rn ru = false := by unfold shB; rw [hp]; simp
theorem shB_t {pe pn a b c d h re rn ru : Int} (h1 : plB pe pn = true) (h2 : blB a b c d h = true) (h3 : ryB re rn ru = true) : shB pe pn a b c d h re rn ru = decide (PrM pe pn a b c d h re rn ru) := by unfold shB; rw [h1, h2, h3]; rfl

/-! Higher blocks, a lower sun, turns. -/
theorem meet_high {pe pn a b c d h h' re rn ru : Int} (hh : h ≤ h') (m : Meet pe pn a b c d h re rn ru) : Meet pe pn a b c d h' re rn ru := by
  obtain ⟨x, y, hy, hx, h1, h2, hl⟩ := m
  exact ⟨x, y, hy, hx, h1, h2, Int.le_trans hl (Int.mul_le_mul_of_nonneg_right hh (Int.le_of_lt hy))⟩
theorem meet_low {pe pn a b c d h re rn ru ru' : Int} (hu : ru' ≤ ru) (m : Meet pe pn a b c d h re rn ru) : Meet pe pn a b c d h re rn ru' := by
  obtain ⟨x, y, hy, hx, h1, h2, hl⟩ := m
  exact ⟨x, y, hy, hx, h1, h2, Int.le_trans (Int.mul_le_mul_of_nonneg_right hu hx) hl⟩
theorem meet_long {pe pn a b c d h re rn ru : Int} : Meet pe pn a b c d h (2 * re) (2 * rn) (2 * ru) ↔ Meet pe pn a b c d h re rn ru := by
  constructor
  · rintro ⟨x, y, hy, hx, h1, h2, hl⟩
    unfold Sid at h1 h2
    have q : ∀ r : Int, 2 * r * x = r * (2 * x) := by intro r; grind
    rw [q] at h1 h2 hl
    exact ⟨2 * x, y, hy, by omega, h1, h2, hl⟩
  · rintro ⟨x, y, hy, hx, ⟨h1, h1'⟩, ⟨h2, h2'⟩, hl⟩
    refine ⟨x, 2 * y, by omega, hx, ⟨?_, ?_⟩, ⟨?_, ?_⟩, ?_⟩ <;> (simp only [Int.mul_assoc, Int.mul_left_comm _ (2 : Int)]; omega)
theorem meet_turn {pe pn a b c d h re rn ru : Int} : Meet (-pn) pe (-d) (-c) a b h (-rn) re ru ↔ Meet pe pn a b c d h re rn ru := by
  have q : ∀ x y, Sid (-pn) (-rn) (-d) (-c) x y ↔ Sid pn rn c d x y := by
    intro x y; unfold Sid; simp only [Int.neg_mul]; omega
  unfold Meet
  simp only [q]
  constructor <;> (rintro ⟨x, y, hy, hx, h1, h2, hl⟩; exact ⟨x, y, hy, hx, h2, h1, hl⟩)
theorem meet_under {pe pn a b c d h re rn ru : Int} (hh : 0 ≤ h) (h1 : a ≤ pe) (h2 : pe ≤ b) (h3 : c ≤ pn) (h4 : pn ≤ d) : Meet pe pn a b c d h re rn ru :=
  ⟨0, 1, by omega, by omega, by unfold Sid; omega, by unfold Sid; omega, by omega⟩
theorem meet_zenith {pe pn a b c d h ru : Int} (m : Meet pe pn a b c d h 0 0 ru) : a ≤ pe ∧ pe ≤ b ∧ c ≤ pn ∧ pn ≤ d := by
  obtain ⟨x, y, hy, hx, ⟨h1, h1'⟩, ⟨h2, h2'⟩, hl⟩ := m
  simp only [Int.zero_mul, Int.add_zero] at h1 h1' h2 h2'
  exact ⟨Int.le_of_mul_le_mul_right h1 hy, Int.le_of_mul_le_mul_right h1' hy, Int.le_of_mul_le_mul_right h2 hy, Int.le_of_mul_le_mul_right h2' hy⟩
theorem sh_high {pe pn a b c d h re rn ru : Int} (hb : blB a b c d (h + 1) = true) (hs : shB pe pn a b c d h re rn ru = true) : shB pe pn a b c d (h + 1) re rn ru = true := by
  rw [shB_iff] at hs ⊢; exact ⟨hs.1, hb, hs.2.2.1, meet_high (by omega) hs.2.2.2⟩
theorem sh_low {pe pn a b c d h re rn ru : Int} (hb : ryB re rn (ru - 1) = true) (hs : shB pe pn a b c d h re rn ru = true) : shB pe pn a b c d h re rn (ru - 1) = true := by
  rw [shB_iff] at hs ⊢; exact ⟨hs.1, hs.2.1, hb, meet_low (by omega) hs.2.2.2⟩
theorem sh_long {pe pn a b c d h re rn ru : Int} (hr : ryB re rn ru = true) (hb : ryB (2 * re) (2 * rn) (2 * ru) = true) : shB pe pn a b c d h (2 * re) (2 * rn) (2 * ru) = shB pe pn a b c d h re rn ru := by
  rw [Bool.eq_iff_iff, shB_iff, shB_iff, hr, hb, meet_long]
theorem sh_turn (pe pn a b c d h re rn ru : Int) : shB (-pn) pe (-d) (-c) a b h (-rn) re ru = shB pe pn a b c d h re rn ru := by
  rw [Bool.eq_iff_iff, shB_iff, shB_iff, plB_turn, blB_turn, ryB_turn, meet_turn]
theorem sh_zenith (pe pn a b c d h : Int) : shB pe pn a b c d h 0 0 1 = unB pe pn a b c d h := by
  rw [Bool.eq_iff_iff, shB_iff, unB_iff]
  constructor
  · rintro ⟨h1, h2, h3, h4⟩; exact ⟨h1, h2, meet_zenith h4⟩
  · rintro ⟨h1, h2, h3, h4, h5, h6⟩; have := blB_iff.1 h2; exact ⟨h1, h2, by decide, meet_under (by omega) h3 h4 h5 h6⟩
theorem sh_under {pe pn a b c d h re rn ru : Int} (hu : unB pe pn a b c d h = true) (hr : ryB re rn ru = true) : shB pe pn a b c d h re rn ru = true := by
  rw [unB_iff] at hu; have := blB_iff.1 hu.2.1
  rw [shB_iff]; exact ⟨hu.1, hu.2.1, hr, meet_under (by omega) hu.2.2.1 hu.2.2.2.1 hu.2.2.2.2.1 hu.2.2.2.2.2⟩
/-- The shadow of a corner of the top, if it is a place. -/
theorem meet_corner {pe pn a b c d h re rn ru ce cn : Int} (hu : 1 ≤ ru) (hh : 1 ≤ h) (he : pe * ru = ce * ru - re * h) (hn : pn * ru = cn * ru - rn * h) (h1 : a ≤ ce) (h2 : ce ≤ b) (h3 : c ≤ cn) (h4 : cn ≤ d) : Meet pe pn a b c d h re rn ru := by
  refine ⟨h, ru, by omega, by omega, ?_, ?_, by rw [Int.mul_comm]; omega⟩
  · unfold Sid
    have e : pe * ru + re * h = ce * ru := by omega
    rw [e]; exact ⟨Int.mul_le_mul_of_nonneg_right h1 (by omega), Int.mul_le_mul_of_nonneg_right h2 (by omega)⟩
  · unfold Sid
    have e : pn * ru + rn * h = cn * ru := by omega
    rw [e]; exact ⟨Int.mul_le_mul_of_nonneg_right h3 (by omega), Int.mul_le_mul_of_nonneg_right h4 (by omega)⟩
end Go.Proofs.Ytigndpajpofofaa
