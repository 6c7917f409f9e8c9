/- Sines: plain mathematics of chapter 2. -/
namespace Go.Proofs.Ytigndpajpofofaa

def sin0 (x : Int) : Int := (8000 * (x * (180 - x)) + 40500 - x * (180 - x)) / (2 * (40500 - x * (180 - x)))
theorem sin0_eq (x : Int) : sin0 x = (2 * (4000 * (x * (180 - x))) + (40500 - x * (180 - x))) / (2 * (40500 - x * (180 - x))) := by unfold sin0; congr 1; omega
def sinT (t : Int) : Int := if 180 < t then -sin0 (t - 180) else sin0 t
def sinI (a : Int) : Int := sinT (a % 360)
def cosI (a : Int) : Int := sinT ((a % 360 + 90) % 360)
/-- A fact of all angles of a whole turn, by looking. -/
theorem all360 {p : Int → Bool} (h : (List.range 360).all (fun k => p (k : Int)) = true) (t : Int) (h0 : 0 ≤ t) (h1 : t < 360) : p t = true := by
  have := List.all_eq_true.1 h t.toNat (by rw [List.mem_range]; omega)
  rwa [show ((t.toNat : Nat) : Int) = t by omega] at this
theorem mod360 (a : Int) : 0 ≤ a % 360 ∧ a % 360 < 360 := by omega
def SinFacts (t : Int) : Prop :=
  (-1000 ≤ sinT t ∧ sinT t ≤ 1000 ∧ sinT ((t + 180) % 360) = -sinT t ∧ sinT ((180 - t) % 360) = sinT t ∧ (t < 90 → sinT t ≤ sinT ((t + 1) % 360)) ∧
    sinT (((-t) % 360 + 90) % 360) = sinT ((t + 90) % 360) ∧ sinT (((t + 180) % 360 + 90) % 360) = -sinT ((t + 90) % 360) ∧
    990000 < sinT ((t + 90) % 360) * sinT ((t + 90) % 360) + sinT t * sinT t ∧ sinT ((t + 90) % 360) * sinT ((t + 90) % 360) + sinT t * sinT t < 1010000 ∧
    ¬ (sinT ((t + 90) % 360) = 0 ∧ sinT t = 0))
instance (t : Int) : Decidable (SinFacts t) := by unfold SinFacts; infer_instance
def sinFacts (t : Int) : Bool := decide (SinFacts t)
theorem sin_facts (t : Int) (h0 : 0 ≤ t) (h1 : t < 360) : sinFacts t = true := all360 (p := sinFacts) (by decide +kernel) t h0 h1
theorem sin_facts' (a : Int) : SinFacts (a % 360) := of_decide_eq_true (sin_facts (a % 360) (mod360 a).1 (mod360 a).2)
theorem sin_bd (a : Int) : -1000 ≤ sinI a ∧ sinI a ≤ 1000 := by have h := sin_facts' a; exact ⟨h.1, h.2.1⟩
theorem cos_bd (a : Int) : -1000 ≤ cosI a ∧ cosI a ≤ 1000 := by have h := sin_facts' (a % 360 + 90); exact ⟨h.1, h.2.1⟩
theorem sin_half (a : Int) : sinI (a + 180) = -sinI a := by
  have h := (sin_facts' a).2.2.1
  unfold sinI; rw [← h]; congr 1; omega
theorem sin_back (a : Int) : sinI (180 - a) = sinI a := by
  have h := (sin_facts' a).2.2.2.1
  unfold sinI; rw [← h]; congr 1; omega
theorem sin_up (t : Int) (h0 : 0 ≤ t) (h1 : t < 90) : sinI t ≤ sinI (t + 1) := by
  have h := (sin_facts' t).2.2.2.2.1
  unfold sinI
  have e : (t % 360 + 1) % 360 = (t + 1) % 360 := by omega
  rw [e] at h
  exact h (by omega)
theorem cos_neg (a : Int) : cosI (-a) = cosI a := by
  have h := (sin_facts' a).2.2.2.2.2.1
  unfold cosI; rw [← h]; congr 1; omega
theorem cos_half (a : Int) : cosI (a + 180) = -cosI a := by
  have h := (sin_facts' a).2.2.2.2.2.2.1
  unfold cosI; rw [← h]; congr 1; omega
theorem sin_sum (a : Int) : 990000 < cosI a * cosI a + sinI a * sinI a ∧ cosI a * cosI a + sinI a * sinI a < 1010000 := by
  have h := (sin_facts' a).2.2.2.2.2.2.2
  exact ⟨h.1, h.2.1⟩
theorem sin_nn (a : Int) : ¬ (cosI a = 0 ∧ sinI a = 0) := (sin_facts' a).2.2.2.2.2.2.2.2.2
theorem sin_mod (a : Int) : sinI (a % 360) = sinI a := by unfold sinI; congr 1; omega
theorem cos_eq (a : Int) : cosI a = sinI (a % 360 + 90) := by unfold cosI sinI; rfl
theorem sin_90 : sinI 90 = 1000 := by decide
theorem sin_30 : sinI 30 = 500 := by decide
theorem p_bd (x : Int) (h0 : 0 ≤ x) (h1 : x ≤ 180) : 0 ≤ x * (180 - x) ∧ x * (180 - x) ≤ 8100 := by
  constructor
  · exact Int.mul_nonneg h0 (by omega)
  · have e : x * (180 - x) = 8100 - (x - 90) * (x - 90) := by grind
    have : 0 ≤ (x - 90) * (x - 90) := by
      rcases Int.le_total 0 (x - 90) with h | h
      · exact Int.mul_nonneg h h
      · exact Int.mul_nonneg_of_nonpos_of_nonpos h h
    omega
/-- The least angle at which the way of the heading is not before. -/
def HeadIs (p : Int → Bool) (n : Int) : Prop := (0 ≤ n ∧ n < 360 ∧ p n = false ∧ ∀ k, 0 ≤ k → k < n → p k = true) ∨ (n = 0 ∧ ∀ k, 0 ≤ k → k < 360 → p k = true)
theorem HeadIs.unique {p : Int → Bool} {n m : Int} (h : HeadIs p n) (k : HeadIs p m) : n = m := by
  rcases h with ⟨h0, h1, h2, h3⟩ | ⟨rfl, h⟩
  · rcases k with ⟨k0, k1, k2, k3⟩ | ⟨rfl, k⟩
    · rcases Int.lt_trichotomy n m with l | l | l
      · have := k3 n h0 l; rw [h2] at this; cases this
      · exact l
      · have := h3 m k0 l; rw [k2] at this; cases this
    · have := k n h0 h1; rw [h2] at this; cases this
  · rcases k with ⟨k0, k1, k2, k3⟩ | ⟨rfl, k⟩
    · have := h m k0 k1; rw [k2] at this; cases this
    · rfl
end Go.Proofs.Ytigndpajpofofaa
