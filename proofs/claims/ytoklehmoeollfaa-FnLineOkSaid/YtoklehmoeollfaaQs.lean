/- Sets in numbers, friends, lines: plain mathematics of chapter 9. -/
import Derived.Test.YtoklehmoeollfaaQm
namespace Go.Proofs.Ytoklehmoeollfaa
set_option linter.unusedVariables false
set_option linter.unusedSimpArgs false

/-- Whether a number has a bit. -/
def isB (x : Int) (j : Nat) : Bool := (x / 2 ^ j) % 2 == 1
/-- All of n ones. -/
def alI (n : Nat) : Int := 2 ^ n - 1
theorem alI_bd {n : Nat} (h : n ≤ 6) : 0 ≤ alI n ∧ alI n ≤ 63 := by
  have : n = 0 ∨ n = 1 ∨ n = 2 ∨ n = 3 ∨ n = 4 ∨ n = 5 ∨ n = 6 := by omega
  rcases this with rfl | rfl | rfl | rfl | rfl | rfl | rfl <;> decide
theorem two_bd {n : Nat} (h : n ≤ 6) : (1 : Int) ≤ 2 ^ n ∧ (2 : Int) ^ n ≤ 64 := by have := alI_bd h; unfold alI at this; omega
theorem isB_tmod {x : Int} {j : Nat} (h : 0 ≤ x) : (x / 2 ^ j).tmod 2 = (x / 2 ^ j) % 2 := Int.tmod_eq_emod_of_nonneg (Int.ediv_nonneg h (Int.le_of_lt (Int.pow_pos (by decide))))
theorem isB_yes {x : Int} {j : Nat} (h : isB x j = true) : (x / 2 ^ j) % 2 = 1 := by unfold isB at h; simpa using h
theorem isB_no {x : Int} {j : Nat} (h : isB x j = false) : (x / 2 ^ j) % 2 = 0 := by unfold isB at h; simp at h; omega
theorem isB_all {n q : Nat} (h : n ≤ 6) (hq : q < 6) : isB (alI n) q = decide (q < n) := by
  have h1 : n = 0 ∨ n = 1 ∨ n = 2 ∨ n = 3 ∨ n = 4 ∨ n = 5 ∨ n = 6 := by omega
  have h2 : q = 0 ∨ q = 1 ∨ q = 2 ∨ q = 3 ∨ q = 4 ∨ q = 5 := by omega
  rcases h1 with rfl | rfl | rfl | rfl | rfl | rfl | rfl <;> rcases h2 with rfl | rfl | rfl | rfl | rfl | rfl <;> decide
/-- A set without one. -/
def woI (x : Int) (j : Nat) : Int := if isB x j = true then x - 2 ^ j else x
theorem woI_all : ∀ s : Fin 64, ∀ j : Fin 6, 0 ≤ woI (s : Nat) j ∧ woI (s : Nat) j < 64 ∧ (∀ q : Fin 6, isB (woI (s : Nat) j) q = (isB (s : Nat) q && !((j : Nat) == (q : Nat)))) := by decide +kernel
theorem woI_bd {x : Int} {j : Nat} (h0 : 0 ≤ x) (h1 : x < 64) (hj : j < 6) : 0 ≤ woI x j ∧ woI x j < 64 := by
  obtain ⟨s, rfl⟩ : ∃ s : Nat, x = s := ⟨x.toNat, by omega⟩
  have := woI_all ⟨s, by omega⟩ ⟨j, hj⟩
  exact ⟨this.1, this.2.1⟩
theorem woI_isB {x : Int} {j q : Nat} (h0 : 0 ≤ x) (h1 : x < 64) (hj : j < 6) (hq : q < 6) : isB (woI x j) q = (isB x q && !(j == q)) := by
  obtain ⟨s, rfl⟩ : ∃ s : Nat, x = s := ⟨x.toNat, by omega⟩
  have := (woI_all ⟨s, by omega⟩ ⟨j, hj⟩).2.2 ⟨q, hq⟩
  simpa using this
/-! Friends. -/
def FrAt (fs : List Int) (m a : Nat) : Prop := 0 ≤ fs.getD a 0 ∧ fs.getD a 0 ≤ alI fs.length ∧ isB (fs.getD a 0) a = false ∧ ∀ b, b < m → isB (fs.getD a 0) b = isB (fs.getD b 0) a
instance (fs : List Int) (m a : Nat) : Decidable (FrAt fs m a) := by unfold FrAt; infer_instance
def FrOk (fs : List Int) : Prop := fs.length ≤ 6 ∧ ∀ a, a < fs.length → FrAt fs fs.length a
instance (fs : List Int) : Decidable (FrOk fs) := by unfold FrOk; infer_instance
def frB (fs : List Int) : Bool := decide (FrOk fs)
theorem frB_iff {fs : List Int} : frB fs = true ↔ FrOk fs := by unfold frB; rw [decide_eq_true_eq]
theorem frB_no {fs : List Int} : frB fs = false ↔ ¬ FrOk fs := by unfold frB; rw [decide_eq_false_iff_not]
theorem frB_bad {fs : List Int} {a : Nat} (ha : a < fs.length) (h : ¬ FrAt fs fs.length a) : frB fs = false := frB_no.2 (fun c => h (c.2 a ha))
theorem frB_good {fs : List Int} (h6 : fs.length ≤ 6) (h : ∀ a, a < fs.length → FrAt fs fs.length a) : frB fs = true := frB_iff.2 ⟨h6, h⟩
theorem frB_back {fs : List Int} (h6 : fs.length ≤ 6) (h : ∀ a, a < fs.length → FrAt fs a a) : frB fs = true := by
  refine frB_good h6 (fun a ha => ⟨(h a ha).1, (h a ha).2.1, (h a ha).2.2.1, fun b hb => ?_⟩)
  rcases Nat.lt_trichotomy b a with c | c | c
  · exact (h a ha).2.2.2 b c
  · subst c; rfl
  · exact ((h b hb).2.2.2 a c).symm
theorem FrAt.bd {fs : List Int} {m a : Nat} (h : FrAt fs m a) (h6 : fs.length ≤ 6) : 0 ≤ fs.getD a 0 ∧ fs.getD a 0 < 64 := by
  have := alI_bd h6; have := h.1; have := h.2.1; omega
theorem FrAt.mk0 {fs : List Int} {m a : Nat} (ha : a < fs.length) (h : inV fs[a] 0 (alI fs.length) = true) (h2 : isB fs[a] a = false) (h3 : ∀ b, (hb : b < m) → isB fs[a] b = isB (fs.getD b 0) a) : FrAt fs m a := by
  have e : fs.getD a 0 = fs[a] := by simp [ha]
  have := inV_iff.1 h
  unfold FrAt; rw [e]; exact ⟨this.1, this.2, h2, h3⟩
theorem FrAt.no1 {fs : List Int} {m a : Nat} (ha : a < fs.length) (h : inV fs[a] 0 (alI fs.length) = false) : ¬ FrAt fs m a := by
  have e : fs.getD a 0 = fs[a] := by simp [ha]
  intro c; unfold FrAt at c; rw [e] at c
  exact inV_no.1 h ⟨c.1, c.2.1⟩
theorem FrAt.no2 {fs : List Int} {m a : Nat} (ha : a < fs.length) (h : isB fs[a] a = true) : ¬ FrAt fs m a := by
  have e : fs.getD a 0 = fs[a] := by simp [ha]
  intro c; unfold FrAt at c; rw [e, h] at c
  exact Bool.noConfusion c.2.2.1
theorem FrAt.no3 {fs : List Int} {m a b : Nat} (ha : a < fs.length) (hb : b < fs.length) (hm : b < m) (h : isB fs[a] b ≠ isB fs[b] a) : ¬ FrAt fs m a := by
  have e : fs.getD a 0 = fs[a] := by simp [ha]
  have e2 : fs.getD b 0 = fs[b] := by simp [hb]
  intro c; unfold FrAt at c; rw [e] at c
  exact h (by rw [c.2.2.2 b hm, e2])
/-! Lines. -/
def lkB (fs us : List Int) (k : Nat) : Bool := inV (us.getD k 0) 0 ((fs.length : Int) - 1) && !hsI (us.take k) (us.getD k 0) && (k == 0 || isB (fs.getD (us.getD k 0).toNat 0) (us.getD (k - 1) 0).toNat)
def lkK (fs us : List Int) : Nat → Bool
  | 0 => true
  | k + 1 => lkK fs us k && lkB fs us k
def lnB (fs us : List Int) : Bool := frB fs && decide (us.length = fs.length) && lkK fs us us.length
section
variable {fs us : List Int}
theorem lkK_down : ∀ {m k : Nat}, k ≤ m → lkK fs us m = true → lkK fs us k = true
  | 0, k, h, hm => by obtain rfl : k = 0 := by omega
                      exact hm
  | m + 1, k, h, hm => by
    by_cases e : k = m + 1
    · subst e; exact hm
    · rw [lkK] at hm
      simp only [Bool.and_eq_true] at hm
      exact lkK_down (by omega) hm.1
theorem lkK_no {k m : Nat} (hk : k < m) (h : lkB fs us k = false) : lkK fs us m = false := by
  cases e : lkK fs us m
  · rfl
  · have := lkK_down (k := k + 1) (by omega) e
    rw [lkK, h] at this
    simp at this
theorem lkK_yes {k : Nat} (h1 : lkK fs us k = true) (h : lkB fs us k = true) : lkK fs us (k + 1) = true := by rw [lkK, h1, h]; rfl
theorem lkK_at {k m : Nat} (hk : k < m) (h : lkK fs us m = true) : lkB fs us k = true := by
  have := lkK_down (k := k + 1) (by omega) h
  rw [lkK] at this
  simp only [Bool.and_eq_true] at this
  exact this.2
theorem lnB_iff : lnB fs us = true ↔ frB fs = true ∧ us.length = fs.length ∧ lkK fs us us.length = true := by
  unfold lnB; simp only [Bool.and_eq_true, decide_eq_true_eq, and_assoc]
theorem lkB_out {k : Nat} (hk : k < us.length) (h : inV us[k] 0 ((fs.length : Int) - 1) = false) : lkB fs us k = false := by
  unfold lkB; rw [show us.getD k 0 = us[k] by simp [hk], h]; rfl
theorem lkB_has {k : Nat} (hk : k < us.length) (h : hsI (us.take k) us[k] = true) : lkB fs us k = false := by
  unfold lkB; rw [show us.getD k 0 = us[k] by simp [hk], h]; simp
theorem lkB_zero (hk : 0 < us.length) (h : inV us[0] 0 ((fs.length : Int) - 1) = true) : lkB fs us 0 = true := by
  unfold lkB; rw [show us.getD 0 0 = us[0] by simp [hk], h]; simp [hsI]
theorem lkB_next {k j p : Nat} (hk : k < us.length) (hk0 : 0 < k) (hj : us[k] = (j : Int)) (hp : us[k - 1] = (p : Int)) (hjn : j < fs.length) (h : hsI (us.take k) us[k] = false) : lkB fs us k = isB fs[j] p := by
  unfold lkB
  rw [show us.getD k 0 = us[k] by simp [hk], show us.getD (k - 1) 0 = us[k - 1] by simp [show k - 1 < us.length by omega], h, hj, hp, show inV (j : Int) 0 ((fs.length : Int) - 1) = true by rw [inV_iff]; omega]
  have e : (k == 0) = false := by simp; omega
  rw [e]; simp [hjn]
theorem lkB_nn {k : Nat} (h : lkB fs us k = true) : 0 ≤ us.getD k 0 ∧ us.getD k 0 < fs.length := by
  unfold lkB at h
  simp only [Bool.and_eq_true] at h
  have := inV_iff.1 h.1.1; omega
end
end Go.Proofs.Ytoklehmoeollfaa
