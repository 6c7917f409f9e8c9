/- Ways turned back by a way: the order goes round. Plain mathematics. -/
import Derived.Test.YtjdaeijhhnaimabWay
namespace Go.Proofs.Ytjdaeijhhnaimab
set_option linter.unusedVariables false

theorem upper {a b : Int} (h : halfI a b = 0) : 0 < b ∨ (b = 0 ∧ 0 < a) := half_0.1 h
theorem lower {a b : Int} (h : halfI a b = 1) : b < 0 ∨ (b = 0 ∧ a < 0) := half_1.1 h
theorem rot_id (f1 f2 p1 p2 q1 q2 : Int) : f2 * (p1 * q2 - p2 * q1) = p2 * (q2 * f1 - q1 * f2) - q2 * (p2 * f1 - p1 * f2) := by grind
theorem rot_e1 {f1 f2 p1 p2 q1 q2 : Int} (hf : halfI f1 f2 = 0) (hp : halfI p1 p2 = 0) (hq : halfI q1 q2 = 1) (hX : 0 ≤ p2 * f1 - p1 * f2) (hZ : 0 < q2 * f1 - q1 * f2) : 0 < p1 * q2 - p2 * q1 := by
  have id := rot_id f1 f2 p1 p2 q1 q2
  rcases upper hf with f | ⟨rfl, f⟩
  · rcases upper hp with p | ⟨rfl, p⟩
    · have k1 := mul_pp p hZ
      have k2 : q2 * (p2 * f1 - p1 * f2) ≤ 0 := by
        have : 0 ≤ (-q2) * (p2 * f1 - p1 * f2) := mul_nonneg' (by rcases lower hq with h | h <;> omega) hX
        rw [Int.neg_mul] at this; omega
      exact pos_of f (by rw [id]; omega)
    · have := mul_pp p f; simp at hX; omega
  · rcases lower hq with q | ⟨rfl, q⟩
    · have := mul_np q f; simp at hZ; omega
    · simp at hZ
theorem rot_e2 {f1 f2 p1 p2 q1 q2 : Int} (hf : halfI f1 f2 = 0) (hp : halfI p1 p2 = 1) (hq : halfI q1 q2 = 0) (hX : p2 * f1 - p1 * f2 ≤ 0) (hZ : q2 * f1 - q1 * f2 < 0) : 0 < p1 * q2 - p2 * q1 := by
  have id := rot_id f1 f2 p1 p2 q1 q2
  rcases upper hf with f | ⟨rfl, f⟩
  · rcases lower hp with p | ⟨rfl, p⟩
    · have k1 := mul_nn p hZ
      have k2 : q2 * (p2 * f1 - p1 * f2) ≤ 0 := by
        have : 0 ≤ q2 * -(p2 * f1 - p1 * f2) := mul_nonneg' (by rcases upper hq with h | h <;> omega) (by omega)
        rw [Int.mul_neg] at this; omega
      exact pos_of f (by rw [id]; omega)
    · have := mul_np p f; simp at hX; omega
  · rcases upper hq with q | ⟨rfl, q⟩
    · have := mul_pp q f; simp at hZ; omega
    · simp at hZ
theorem rot_e3 {f1 f2 p1 p2 q1 q2 : Int} (hf : halfI f1 f2 = 0) (hp : halfI p1 p2 = 1) (hq : halfI q1 q2 = 1) (hX : p2 * f1 - p1 * f2 ≤ 0) (hZ : 0 < q2 * f1 - q1 * f2) : ¬ 0 < p1 * q2 - p2 * q1 := by
  intro hC
  have id := rot_id f1 f2 p1 p2 q1 q2
  rcases upper hf with f | ⟨rfl, f⟩
  · have k0 := mul_pp f hC
    have k1 : p2 * (q2 * f1 - q1 * f2) ≤ 0 := by
      have : 0 ≤ (-p2) * (q2 * f1 - q1 * f2) := mul_nonneg' (by rcases lower hp with h | h <;> omega) (by omega)
      rw [Int.neg_mul] at this; omega
    have k2 : 0 ≤ q2 * (p2 * f1 - p1 * f2) := by
      have : 0 ≤ (-q2) * -(p2 * f1 - p1 * f2) := mul_nonneg' (by rcases lower hq with h | h <;> omega) (by omega)
      rw [Int.neg_mul_neg] at this; exact this
    omega
  · rcases lower hq with q | ⟨rfl, q⟩
    · have := mul_np q f; simp at hZ; omega
    · simp at hZ
theorem neg_x (a b c d : Int) : -b * -c - -a * -d = b * c - a * d := by grind
theorem half_flip {a b : Int} (h : ¬ (a = 0 ∧ b = 0)) : halfI (-a) (-b) = 1 - halfI a b := half_neg h
/-- In either half. -/
theorem rot_E1 {f1 f2 p1 p2 q1 q2 : Int} (nf : ¬ (f1 = 0 ∧ f2 = 0)) (np : ¬ (p1 = 0 ∧ p2 = 0)) (nq : ¬ (q1 = 0 ∧ q2 = 0)) (hp : halfI p1 p2 = halfI f1 f2) (hq : halfI q1 q2 ≠ halfI f1 f2) (hX : 0 ≤ p2 * f1 - p1 * f2) (hZ : 0 < q2 * f1 - q1 * f2) : 0 < p1 * q2 - p2 * q1 := by
  have F := half_cases f1 f2; have F' := @half_nil f1 f2
  have Q := half_cases q1 q2; have Q' := @half_nil q1 q2
  rcases F with F | F | F
  · exact absurd (F'.1 F) nf
  · exact rot_e1 F (by omega) (by rcases Q with Q | Q | Q; exact absurd (Q'.1 Q) nq; omega; exact Q) hX hZ
  · have := rot_e1 (f1 := -f1) (f2 := -f2) (p1 := -p1) (p2 := -p2) (q1 := -q1) (q2 := -q2) (by rw [half_flip nf]; omega) (by rw [half_flip np]; omega) (by rw [half_flip nq]; rcases Q with Q | Q | Q; exact absurd (Q'.1 Q) nq; omega; omega) (by rw [neg_x]; exact hX) (by rw [neg_x]; exact hZ)
    have e : -p1 * -q2 - -p2 * -q1 = p1 * q2 - p2 * q1 := by grind
    omega
theorem rot_E2 {f1 f2 p1 p2 q1 q2 : Int} (nf : ¬ (f1 = 0 ∧ f2 = 0)) (np : ¬ (p1 = 0 ∧ p2 = 0)) (nq : ¬ (q1 = 0 ∧ q2 = 0)) (hq : halfI q1 q2 = halfI f1 f2) (hp : halfI p1 p2 ≠ halfI f1 f2) (hX : p2 * f1 - p1 * f2 ≤ 0) (hZ : q2 * f1 - q1 * f2 < 0) : 0 < p1 * q2 - p2 * q1 := by
  have F := half_cases f1 f2; have F' := @half_nil f1 f2
  have Q := half_cases p1 p2; have Q' := @half_nil p1 p2
  rcases F with F | F | F
  · exact absurd (F'.1 F) nf
  · exact rot_e2 F (by rcases Q with Q | Q | Q; exact absurd (Q'.1 Q) np; omega; exact Q) (by omega) hX hZ
  · have := rot_e2 (f1 := -f1) (f2 := -f2) (p1 := -p1) (p2 := -p2) (q1 := -q1) (q2 := -q2) (by rw [half_flip nf]; omega) (by rw [half_flip np]; rcases Q with Q | Q | Q; exact absurd (Q'.1 Q) np; omega; omega) (by rw [half_flip nq]; omega) (by rw [neg_x]; exact hX) (by rw [neg_x]; exact hZ)
    have e : -p1 * -q2 - -p2 * -q1 = p1 * q2 - p2 * q1 := by grind
    omega
theorem rot_E3 {f1 f2 p1 p2 q1 q2 : Int} (nf : ¬ (f1 = 0 ∧ f2 = 0)) (np : ¬ (p1 = 0 ∧ p2 = 0)) (nq : ¬ (q1 = 0 ∧ q2 = 0)) (hp : halfI p1 p2 ≠ halfI f1 f2) (hq : halfI q1 q2 ≠ halfI f1 f2) (hX : p2 * f1 - p1 * f2 ≤ 0) (hZ : 0 < q2 * f1 - q1 * f2) : ¬ 0 < p1 * q2 - p2 * q1 := by
  have F := half_cases f1 f2; have F' := @half_nil f1 f2
  have R := half_cases p1 p2; have R' := @half_nil p1 p2
  have Q := half_cases q1 q2; have Q' := @half_nil q1 q2
  rcases F with F | F | F
  · exact absurd (F'.1 F) nf
  · exact rot_e3 F (by rcases R with R | R | R; exact absurd (R'.1 R) np; omega; exact R) (by rcases Q with Q | Q | Q; exact absurd (Q'.1 Q) nq; omega; exact Q) hX hZ
  · have := rot_e3 (f1 := -f1) (f2 := -f2) (p1 := -p1) (p2 := -p2) (q1 := -q1) (q2 := -q2) (by rw [half_flip nf]; omega) (by rw [half_flip np]; rcases R with R | R | R; exact absurd (R'.1 R) np; omega; omega) (by rw [half_flip nq]; rcases Q with Q | Q | Q; exact absurd (Q'.1 Q) nq; omega; omega) (by rw [neg_x]; exact hX) (by rw [neg_x]; exact hZ)
    have e : -p1 * -q2 - -p2 * -q1 = p1 * q2 - p2 * q1 := by grind
    omega
/-- The way p turned back by f. -/
def rD (f1 f2 p1 p2 : Int) : Int := p1 * f1 + p2 * f2
def rX (f1 f2 p1 p2 : Int) : Int := p2 * f1 - p1 * f2
theorem rot_cross (f1 f2 p1 p2 q1 q2 : Int) : rD f1 f2 p1 p2 * rX f1 f2 q1 q2 - rX f1 f2 p1 p2 * rD f1 f2 q1 q2 = (f1 * f1 + f2 * f2) * (p1 * q2 - p2 * q1) := by unfold rD rX; grind
/-- Where no cross is: the halves tell the side. -/
theorem rot_line {f1 f2 p1 p2 : Int} (nf : ¬ (f1 = 0 ∧ f2 = 0)) (np : ¬ (p1 = 0 ∧ p2 = 0)) (hX : rX f1 f2 p1 p2 = 0) : (halfI p1 p2 = halfI f1 f2 → 0 < rD f1 f2 p1 p2) ∧ (halfI p1 p2 ≠ halfI f1 f2 → rD f1 f2 p1 p2 ≤ 0) := by
  have h := same_iff (a := f1) (b := f2) (c := p1) (d := p2) nf np
  unfold Bef at h
  rw [cross_anti f1 f2 p1 p2] at h
  unfold rX at hX; unfold rD
  have e1 : f1 * p2 - f2 * p1 = 0 := by
    have : f1 * p2 - f2 * p1 = p2 * f1 - p1 * f2 := by grind
    omega
  have e2 : f1 * p1 + f2 * p2 = p1 * f1 + p2 * f2 := by grind
  rw [e1, e2] at h
  constructor
  · intro hh; exact (h.1 (by omega)).2
  · intro hh
    rcases Int.lt_or_le 0 (p1 * f1 + p2 * f2) with k | k
    · have := h.2 ⟨rfl, k⟩; omega
    · exact k
theorem rot_half_same {f1 f2 p1 p2 : Int} (nf : ¬ (f1 = 0 ∧ f2 = 0)) (np : ¬ (p1 = 0 ∧ p2 = 0)) (h : halfI p1 p2 = halfI f1 f2) : (0 ≤ rX f1 f2 p1 p2 → halfI (rD f1 f2 p1 p2) (rX f1 f2 p1 p2) = 0) ∧ (rX f1 f2 p1 p2 < 0 → halfI (rD f1 f2 p1 p2) (rX f1 f2 p1 p2) = 1) := by
  constructor
  · intro hx
    by_cases e : rX f1 f2 p1 p2 = 0
    · exact half_0.2 (.inr ⟨e, (rot_line nf np e).1 h⟩)
    · exact half_0.2 (.inl (by omega))
  · intro hx; exact half_1.2 (.inl hx)
theorem rD_ne {f1 f2 p1 p2 : Int} (nf : ¬ (f1 = 0 ∧ f2 = 0)) (np : ¬ (p1 = 0 ∧ p2 = 0)) (hX : rX f1 f2 p1 p2 = 0) : rD f1 f2 p1 p2 ≠ 0 := by
  intro hD
  have hid : rD f1 f2 p1 p2 * rD f1 f2 p1 p2 + rX f1 f2 p1 p2 * rX f1 f2 p1 p2 = (f1 * f1 + f2 * f2) * (p1 * p1 + p2 * p2) := by unfold rD rX; grind
  rw [hD, hX] at hid
  have := mul_pp (sq_pos nf) (sq_pos np)
  simp at hid; omega
theorem rot_half_other {f1 f2 p1 p2 : Int} (nf : ¬ (f1 = 0 ∧ f2 = 0)) (np : ¬ (p1 = 0 ∧ p2 = 0)) (h : halfI p1 p2 ≠ halfI f1 f2) : (0 < rX f1 f2 p1 p2 → halfI (rD f1 f2 p1 p2) (rX f1 f2 p1 p2) = 0) ∧ (rX f1 f2 p1 p2 ≤ 0 → halfI (rD f1 f2 p1 p2) (rX f1 f2 p1 p2) = 1) := by
  constructor
  · intro hx; exact half_0.2 (.inl hx)
  · intro hx
    by_cases e : rX f1 f2 p1 p2 = 0
    · have h1 := (rot_line nf np e).2 h
      have h2 := rD_ne nf np e
      exact half_1.2 (.inr ⟨e, by omega⟩)
    · exact half_1.2 (.inl (by omega))
/-- Behind f, and then what is ahead of f: as one turns from f on. -/
theorem rot_bef {f1 f2 p1 p2 q1 q2 : Int} (nf : ¬ (f1 = 0 ∧ f2 = 0)) (np : ¬ (p1 = 0 ∧ p2 = 0)) (nq : ¬ (q1 = 0 ∧ q2 = 0))
    (h : (¬ Bef p1 p2 f1 f2 ∧ Bef q1 q2 f1 f2) ∨ (¬ Bef p1 p2 f1 f2 ∧ ¬ Bef q1 q2 f1 f2 ∧ Bef p1 p2 q1 q2) ∨ (Bef p1 p2 f1 f2 ∧ Bef q1 q2 f1 f2 ∧ Bef p1 p2 q1 q2)) :
    Bef (rD f1 f2 p1 p2) (rX f1 f2 p1 p2) (rD f1 f2 q1 q2) (rX f1 f2 q1 q2) := by
  have ec : ∀ a b : Int, a * f2 - b * f1 = -(rX f1 f2 a b) := fun a b => by unfold rX; grind
  have hN := sq_pos nf
  unfold Bef at h
  rw [ec, ec] at h
  unfold Bef
  rw [rot_cross]
  have fin : 0 < p1 * q2 - p2 * q1 → 0 < (f1 * f1 + f2 * f2) * (p1 * q2 - p2 * q1) := mul_pp hN
  have F := half_cases f1 f2; have F' := @half_nil f1 f2
  have R := half_cases p1 p2; have R' := @half_nil p1 p2
  have Q := half_cases q1 q2; have Q' := @half_nil q1 q2
  have F0 : halfI f1 f2 ≠ -1 := fun e => nf (F'.1 e)
  have R0 : halfI p1 p2 ≠ -1 := fun e => np (R'.1 e)
  have Q0 : halfI q1 q2 ≠ -1 := fun e => nq (Q'.1 e)
  clear F' R' Q' ec
  have sp := @rot_half_same f1 f2 p1 p2 nf np
  have op := @rot_half_other f1 f2 p1 p2 nf np
  have sq := @rot_half_same f1 f2 q1 q2 nf nq
  have oq := @rot_half_other f1 f2 q1 q2 nf nq
  have E1 := @rot_E1 f1 f2 p1 p2 q1 q2 nf np nq
  have E2 := @rot_E2 f1 f2 p1 p2 q1 q2 nf np nq
  have E3 := @rot_E3 f1 f2 p1 p2 q1 q2 nf np nq
  have eX : p2 * f1 - p1 * f2 = rX f1 f2 p1 p2 := rfl
  have eZ : q2 * f1 - q1 * f2 = rX f1 f2 q1 q2 := rfl
  rw [eX, eZ] at E1 E2 E3
  clear eX eZ hN nf np nq
  generalize rX f1 f2 p1 p2 = X at *
  generalize rX f1 f2 q1 q2 = Z at *
  generalize halfI (rD f1 f2 p1 p2) X = hp' at *
  generalize halfI (rD f1 f2 q1 q2) Z = hq' at *
  generalize (f1 * f1 + f2 * f2) * (p1 * q2 - p2 * q1) = NC at *
  generalize p1 * q2 - p2 * q1 = C at *
  generalize halfI f1 f2 = hf at *
  generalize halfI p1 p2 = hp at *
  generalize halfI q1 q2 = hq at *
  by_cases e1 : hp = hf <;> by_cases e2 : hq = hf <;> by_cases x0 : 0 ≤ X <;> by_cases z0 : 0 ≤ Z <;> by_cases x1 : 0 < X <;> by_cases z1 : 0 < Z <;> by_cases c0 : 0 < C <;> simp_all <;> omega
end Go.Proofs.Ytjdaeijhhnaimab
