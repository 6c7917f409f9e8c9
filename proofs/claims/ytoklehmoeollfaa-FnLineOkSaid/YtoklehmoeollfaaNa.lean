/- Lines of plants: how many there are, from each plant on, of each set (plain mathematics). -/
import Derived.Test.YtoklehmoeollfaaQs
namespace Go.Proofs.Ytoklehmoeollfaa
set_option linter.unusedVariables false
set_option linter.unusedSimpArgs false

def bN (x : Int) (j : Nat) : Nat := if isB x j = true then 1 else 0
/-- How many of the first six are in a set. -/
def pcN (x : Int) : Nat := bN x 0 + bN x 1 + bN x 2 + bN x 3 + bN x 4 + bN x 5
theorem pc_all : ∀ s : Fin 64, ∀ j : Fin 6, isB (s : Nat) j = true → pcN (woI (s : Nat) j) + 1 = pcN (s : Nat) ∧ woI (s : Nat) j < (s : Nat) := by decide +kernel
theorem pc_zero0 : ∀ s : Fin 64, pcN (s : Nat) = 0 → (s : Nat) = 0 := by decide +kernel
theorem pc_wo {x : Int} {j : Nat} (h0 : 0 ≤ x) (h1 : x < 64) (hj : j < 6) (h : isB x j = true) : pcN (woI x j) + 1 = pcN x := by
  obtain ⟨s, rfl⟩ : ∃ s : Nat, x = s := ⟨x.toNat, by omega⟩
  exact (pc_all ⟨s, by omega⟩ ⟨j, hj⟩ h).1
theorem wo_lt {x : Int} {j : Nat} (h0 : 0 ≤ x) (h1 : x < 64) (hj : j < 6) (h : isB x j = true) : woI x j < x := by
  obtain ⟨s, rfl⟩ : ∃ s : Nat, x = s := ⟨x.toNat, by omega⟩
  exact (pc_all ⟨s, by omega⟩ ⟨j, hj⟩ h).2
theorem pc_none {x : Int} (h0 : 0 ≤ x) (h1 : x < 64) (h : pcN x = 0) : x = 0 := by
  obtain ⟨s, rfl⟩ : ∃ s : Nat, x = s := ⟨x.toNat, by omega⟩
  have := pc_zero0 ⟨s, by omega⟩ h
  simp at this; omega
theorem pc_six (x : Int) : pcN x ≤ 6 := by unfold pcN bN; repeat' split
                                           all_goals omega
theorem pc_al {n : Nat} (h : n ≤ 6) : pcN (alI n) = n := by
  have : n = 0 ∨ n = 1 ∨ n = 2 ∨ n = 3 ∨ n = 4 ∨ n = 5 ∨ n = 6 := by omega
  rcases this with rfl | rfl | rfl | rfl | rfl | rfl | rfl <;> decide
theorem pc_some {x : Int} {j : Nat} (hj : j < 6) (h : isB x j = true) : 0 < pcN x := by
  have : j = 0 ∨ j = 1 ∨ j = 2 ∨ j = 3 ∨ j = 4 ∨ j = 5 := by omega
  unfold pcN bN
  rcases this with rfl | rfl | rfl | rfl | rfl | rfl <;> simp [h] <;> omega
theorem isB_nil (j : Nat) : isB 0 j = false := by unfold isB; simp
theorem wo_comm {x : Int} {a b : Nat} : ∀ s : Fin 64, ∀ i j : Fin 6, i ≠ j → woI (woI (s : Nat) i) j = woI (woI (s : Nat) j) i := by decide +kernel
theorem wo_swap {x : Int} {a b : Nat} (h0 : 0 ≤ x) (h1 : x < 64) (ha : a < 6) (hb : b < 6) (hab : a ≠ b) : woI (woI x a) b = woI (woI x b) a := by
  obtain ⟨s, rfl⟩ : ∃ s : Nat, x = s := ⟨x.toNat, by omega⟩
  exact wo_comm (x := 0) (a := 0) (b := 0) ⟨s, by omega⟩ ⟨a, ha⟩ ⟨b, hb⟩ (by simpa using hab)
/-- A sum over six. -/
def sm (h : Nat → Int) : Int := h 0 + h 1 + h 2 + h 3 + h 4 + h 5
theorem sm_congr {f g : Nat → Int} (h : ∀ q, q < 6 → f q = g q) : sm f = sm g := by
  unfold sm; rw [h 0 (by omega), h 1 (by omega), h 2 (by omega), h 3 (by omega), h 4 (by omega), h 5 (by omega)]
theorem sm_nn {f : Nat → Int} (h : ∀ q, q < 6 → 0 ≤ f q) : 0 ≤ sm f := by
  have := h 0 (by omega); have := h 1 (by omega); have := h 2 (by omega); have := h 3 (by omega); have := h 4 (by omega); have := h 5 (by omega)
  unfold sm; omega
theorem sm_ge {f : Nat → Int} (h : ∀ q, q < 6 → 0 ≤ f q) {j : Nat} (hj : j < 6) : f j ≤ sm f := by
  have := h 0 (by omega); have := h 1 (by omega); have := h 2 (by omega); have := h 3 (by omega); have := h 4 (by omega); have := h 5 (by omega)
  have e : j = 0 ∨ j = 1 ∨ j = 2 ∨ j = 3 ∨ j = 4 ∨ j = 5 := by omega
  unfold sm
  rcases e with rfl | rfl | rfl | rfl | rfl | rfl <;> omega
theorem sm_pos {f : Nat → Int} (h : 0 < sm f) : ∃ j, j < 6 ∧ 0 < f j := by
  by_cases c0 : 0 < f 0
  · exact ⟨0, by omega, c0⟩
  by_cases c1 : 0 < f 1
  · exact ⟨1, by omega, c1⟩
  by_cases c2 : 0 < f 2
  · exact ⟨2, by omega, c2⟩
  by_cases c3 : 0 < f 3
  · exact ⟨3, by omega, c3⟩
  by_cases c4 : 0 < f 4
  · exact ⟨4, by omega, c4⟩
  exact ⟨5, by omega, by unfold sm at h; omega⟩
theorem sm_zero {f : Nat → Int} (h : ∀ q, q < 6 → f q = 0) : sm f = 0 := by rw [sm_congr h]; rfl
theorem sm_add (f g : Nat → Int) : sm (fun q => f q + g q) = sm f + sm g := by simp only [sm]; omega
theorem sm_swap (f : Nat → Nat → Int) : sm (fun a => sm (fun b => f a b)) = sm (fun b => sm (fun a => f a b)) := by simp only [sm]; omega
theorem sm_one {f : Nat → Int} {j : Nat} (hj : j < 6) (h : ∀ q, q < 6 → q ≠ j → f q = 0) : sm f = f j := by
  have e : j = 0 ∨ j = 1 ∨ j = 2 ∨ j = 3 ∨ j = 4 ∨ j = 5 := by omega
  unfold sm
  rcases e with rfl | rfl | rfl | rfl | rfl | rfl
  · rw [h 1 (by omega) (by omega), h 2 (by omega) (by omega), h 3 (by omega) (by omega), h 4 (by omega) (by omega), h 5 (by omega) (by omega)]; omega
  · rw [h 0 (by omega) (by omega), h 2 (by omega) (by omega), h 3 (by omega) (by omega), h 4 (by omega) (by omega), h 5 (by omega) (by omega)]; omega
  · rw [h 1 (by omega) (by omega), h 0 (by omega) (by omega), h 3 (by omega) (by omega), h 4 (by omega) (by omega), h 5 (by omega) (by omega)]; omega
  · rw [h 1 (by omega) (by omega), h 2 (by omega) (by omega), h 0 (by omega) (by omega), h 4 (by omega) (by omega), h 5 (by omega) (by omega)]; omega
  · rw [h 1 (by omega) (by omega), h 2 (by omega) (by omega), h 3 (by omega) (by omega), h 0 (by omega) (by omega), h 5 (by omega) (by omega)]; omega
  · rw [h 1 (by omega) (by omega), h 2 (by omega) (by omega), h 3 (by omega) (by omega), h 4 (by omega) (by omega), h 0 (by omega) (by omega)]; omega
theorem sm_if (b : Bool) (f : Nat → Int) : sm (fun q => if b = true then f q else 0) = if b = true then sm f else 0 := by cases b <;> simp [sm]
/-! How many lines there are of just the plants of a set that begin with a plant. -/
def lTf (r : Nat → Nat → Bool) : Nat → Int → Nat → Int
  | 0, _, _ => 0
  | f + 1, S, p => if isB S p = true then (if woI S p = 0 then 1 else sm (fun q => if r p q = true then lTf r f (woI S p) q else 0)) else 0
/-- Those with a given end. -/
def gTf (r : Nat → Nat → Bool) : Nat → Int → Nat → Nat → Int
  | 0, _, _, _ => 0
  | f + 1, S, s, e => if isB S s = true then (if woI S s = 0 then (if s = e then 1 else 0) else sm (fun q => if r s q = true then gTf r f (woI S s) q e else 0)) else 0
section
variable {r : Nat → Nat → Bool}
theorem lTf_nn : ∀ (f : Nat) (S : Int) (p : Nat), 0 ≤ lTf r f S p
  | 0, _, _ => by simp [lTf]
  | f + 1, S, p => by
    rw [lTf]; split
    · split
      · omega
      · exact sm_nn (fun q _ => by split
                                   · exact lTf_nn f _ _
                                   · omega)
    · omega
theorem sm_le {f : Nat → Int} {c : Int} (h : ∀ q, q < 6 → f q ≤ c) : sm f ≤ 6 * c := by
  have := h 0 (by omega); have := h 1 (by omega); have := h 2 (by omega); have := h 3 (by omega); have := h 4 (by omega); have := h 5 (by omega)
  unfold sm; omega
theorem lTf_le : ∀ (f : Nat) (S : Int) (p : Nat), lTf r f S p ≤ 6 ^ f
  | 0, _, _ => by simp [lTf]
  | f + 1, S, p => by
    have h1 : (1 : Int) ≤ 6 ^ f := Int.pow_pos (by decide)
    have h2 : (6 : Int) ^ (f + 1) = 6 * 6 ^ f := by rw [Int.pow_succ, Int.mul_comm]
    rw [lTf, h2]; split
    · split
      · omega
      · exact sm_le (fun q _ => by split
                                   · exact lTf_le f _ _
                                   · omega)
    · omega
theorem lTf_eq : ∀ (f g : Nat) (S : Int) (p : Nat), 0 ≤ S → S < 64 → p < 6 → pcN S ≤ f → pcN S ≤ g → lTf r f S p = lTf r g S p
  | 0, g, S, p, h0, h1, hp, hf, hg => by
    obtain rfl := pc_none h0 h1 (by omega)
    cases g with
    | zero => rfl
    | succ g => rw [lTf, lTf, isB_nil]; rfl
  | f + 1, 0, S, p, h0, h1, hp, hf, hg => by
    obtain rfl := pc_none h0 h1 (by omega)
    rw [lTf, lTf, isB_nil]; rfl
  | f + 1, g + 1, S, p, h0, h1, hp, hf, hg => by
    rw [lTf, lTf]
    by_cases hb : isB S p = true
    · rw [if_pos hb, if_pos hb]
      by_cases hz : woI S p = 0
      · rw [if_pos hz, if_pos hz]
      · rw [if_neg hz, if_neg hz]
        have hw := woI_bd (j := p) h0 h1 hp
        have hc := pc_wo h0 h1 hp hb
        refine sm_congr (fun q hq => ?_)
        rw [lTf_eq f g (woI S p) q hw.1 hw.2 hq (by omega) (by omega)]
    · rw [if_neg hb, if_neg hb]
theorem gTf_in : ∀ (f : Nat) (S : Int) (s e : Nat), 0 ≤ S → S < 64 → s < 6 → e < 6 → isB S e = false → gTf r f S s e = 0
  | 0, _, _, _, _, _, _, _, _ => by simp [gTf]
  | f + 1, S, s, e, h0, h1, hs, he, hb => by
    rw [gTf]
    by_cases hc : isB S s = true
    · rw [if_pos hc]
      by_cases hz : woI S s = 0
      · rw [if_pos hz, if_neg (by intro c; rw [c, hb] at hc; exact Bool.noConfusion hc)]
      · rw [if_neg hz]
        have hw := woI_bd (j := s) h0 h1 hs
        refine sm_zero (fun q hq => ?_)
        split
        · exact gTf_in f _ q e hw.1 hw.2 hq he (by rw [woI_isB h0 h1 hs he, hb]; rfl)
        · rfl
    · rw [if_neg hc]
theorem lTf_sum : ∀ (f : Nat) (S : Int) (s : Nat), s < 6 → lTf r f S s = sm (fun e => gTf r f S s e)
  | 0, S, s, hs => by simp [lTf, gTf, sm]
  | f + 1, S, s, hs => by
    rw [lTf]
    have e0 : ∀ e, gTf r (f + 1) S s e = if isB S s = true then (if woI S s = 0 then (if s = e then 1 else 0) else sm (fun q => if r s q = true then gTf r f (woI S s) q e else 0)) else 0 := fun e => by rw [gTf]
    rw [sm_congr (fun e _ => e0 e)]
    by_cases hb : isB S s = true
    · simp only [hb, if_true]
      by_cases hz : woI S s = 0
      · simp only [hz, if_true]
        rw [sm_one hs (fun q _ hq => if_neg (fun c => hq c.symm)), if_pos rfl]
      · simp only [hz, if_false]
        rw [sm_swap (fun e q => if r s q = true then gTf r f (woI S s) q e else 0)]
        refine sm_congr (fun q hq => ?_)
        rw [sm_if (r s q) (fun a => gTf r f (woI S s) q a), lTf_sum f (woI S s) q hq]
    · simp only [hb, if_false]; rfl
/-- A line may be told from its end. -/
theorem gTf_end : ∀ (f : Nat) (S : Int) (s e : Nat), 0 ≤ S → S < 64 → s < 6 → e < 6 →
    gTf r (f + 1) S s e = if isB S e = true then (if woI S e = 0 then (if s = e then 1 else 0) else sm (fun q => if r q e = true then gTf r f (woI S e) s q else 0)) else 0
  | 0, S, s, e, h0, h1, hs, he => by
    rw [gTf]
    by_cases hse : s = e
    · subst hse
      by_cases hb : isB S s = true
      · rw [if_pos hb, if_pos hb]
        by_cases hz : woI S s = 0
        · rw [if_pos hz, if_pos hz]
        · rw [if_neg hz, if_neg hz, sm_zero (fun q _ => by split <;> simp [gTf]), sm_zero (fun q _ => by split <;> simp [gTf])]
      · rw [if_neg hb, if_neg hb]
    · have z1 : (if isB S s = true then (if woI S s = 0 then (if s = e then (1 : Int) else 0) else sm (fun q => if r s q = true then gTf r 0 (woI S s) q e else 0)) else 0) = 0 := by
        split
        · split
          · first | rfl | exact if_neg hse
          · exact sm_zero (fun q _ => by split <;> simp [gTf])
        · rfl
      have z2 : (if isB S e = true then (if woI S e = 0 then (if s = e then (1 : Int) else 0) else sm (fun q => if r q e = true then gTf r 0 (woI S e) s q else 0)) else 0) = 0 := by
        split
        · split
          · first | rfl | exact if_neg hse
          · exact sm_zero (fun q _ => by split <;> simp [gTf])
        · rfl
      rw [z1, z2]
  | f + 1, S, s, e, h0, h1, hs, he => by
    by_cases hse : s = e
    · subst hse
      rw [gTf]
      by_cases hb : isB S s = true
      · rw [if_pos hb, if_pos hb]
        by_cases hz : woI S s = 0
        · rw [if_pos hz, if_pos hz]
        · rw [if_neg hz, if_neg hz]
          have hw := woI_bd (j := s) h0 h1 hs
          have hn : isB (woI S s) s = false := by rw [woI_isB h0 h1 hs hs]; simp
          rw [sm_zero (fun q hq => by
                split
                · exact gTf_in _ _ _ _ hw.1 hw.2 hq hs hn
                · rfl),
              sm_zero (fun q hq => by
                split
                · rw [gTf, hn]; rfl
                · rfl)]
      · rw [if_neg hb, if_neg hb]
    · have hes : e ≠ s := fun c => hse c.symm
      have A : gTf r (f + 1 + 1) S s e = if isB S s = true then sm (fun q => if r s q = true then (if isB S e = true then (if woI (woI S s) e = 0 then (if q = e then 1 else 0) else sm (fun t => if r t e = true then gTf r f (woI (woI S s) e) q t else 0)) else 0) else 0) else 0 := by
        rw [gTf]
        by_cases hb : isB S s = true
        · rw [if_pos hb, if_pos hb]
          have hw := woI_bd (j := s) h0 h1 hs
          have hbe : isB (woI S s) e = isB S e := by rw [woI_isB h0 h1 hs he]; simp [hse]
          by_cases hz : woI S s = 0
          · rw [if_pos hz, if_neg hse]
            have : isB S e = false := by rw [← hbe, hz, isB_nil]
            rw [this]
            exact (sm_zero (fun q _ => by simp)).symm
          · rw [if_neg hz]
            refine sm_congr (fun q hq => ?_)
            rw [gTf_end f (woI S s) q e hw.1 hw.2 hq he, hbe]
        · rw [if_neg hb, if_neg hb]
      have B : (if isB S e = true then (if woI S e = 0 then (if s = e then (1 : Int) else 0) else sm (fun q => if r q e = true then gTf r (f + 1) (woI S e) s q else 0)) else 0) = if isB S e = true then sm (fun t => if r t e = true then (if isB S s = true then (if woI (woI S e) s = 0 then (if s = t then 1 else 0) else sm (fun q => if r s q = true then gTf r f (woI (woI S e) s) q t else 0)) else 0) else 0) else 0 := by
        by_cases hb : isB S e = true
        · rw [if_pos hb, if_pos hb]
          have hw := woI_bd (j := e) h0 h1 he
          have hbe : isB (woI S e) s = isB S s := by rw [woI_isB h0 h1 he hs]; simp [hes]
          by_cases hz : woI S e = 0
          · rw [if_pos hz, if_neg hse]
            have : isB S s = false := by rw [← hbe, hz, isB_nil]
            rw [this]
            exact (sm_zero (fun q _ => by simp)).symm
          · rw [if_neg hz]
            refine sm_congr (fun t ht => ?_)
            rw [gTf, hbe]
        · rw [if_neg hb, if_neg hb]
      rw [A, B, wo_swap h0 h1 he hs hes]
      by_cases hbs : isB S s = true <;> by_cases hbe : isB S e = true
      · simp only [hbs, hbe, if_true]
        by_cases hz : woI (woI S s) e = 0
        · simp only [hz, if_true]
          rw [sm_one he (fun q _ hq => by simp [hq]), sm_one hs (fun q _ hq => by simp [show ¬ s = q from fun c => hq c.symm])]
          simp
        · simp only [hz, if_false]
          have L : ∀ q, (if r s q = true then sm (fun t => if r t e = true then gTf r f (woI (woI S s) e) q t else 0) else 0) = sm (fun t => if r s q = true ∧ r t e = true then gTf r f (woI (woI S s) e) q t else 0) := fun q => by
            by_cases c : r s q = true <;> simp [c, sm]
          have R : ∀ t, (if r t e = true then sm (fun q => if r s q = true then gTf r f (woI (woI S s) e) q t else 0) else 0) = sm (fun q => if r s q = true ∧ r t e = true then gTf r f (woI (woI S s) e) q t else 0) := fun t => by
            by_cases c : r t e = true <;> simp [c, sm]
          rw [sm_congr (fun q _ => L q), sm_congr (fun t _ => R t), sm_swap]
      · simp only [hbs, hbe, if_true, if_false]
        exact sm_zero (fun q _ => by simp)
      · simp only [hbs, hbe, if_true, if_false]
        exact (sm_zero (fun q _ => by simp)).symm
      · simp [hbs, hbe]
/-- Turned round, a line is one. -/
theorem gTf_back (hr : ∀ a b, a < 6 → b < 6 → r a b = r b a) : ∀ (f : Nat) (S : Int) (s e : Nat), 0 ≤ S → S < 64 → s < 6 → e < 6 → gTf r f S s e = gTf r f S e s
  | 0, _, _, _, _, _, _, _ => by simp [gTf]
  | f + 1, S, s, e, h0, h1, hs, he => by
    rw [gTf_end f S s e h0 h1 hs he, gTf]
    by_cases hb : isB S e = true
    · rw [if_pos hb, if_pos hb]
      by_cases hz : woI S e = 0
      · rw [if_pos hz, if_pos hz]
        by_cases c : s = e
        · subst c; rfl
        · rw [if_neg c, if_neg (fun d => c d.symm)]
      · rw [if_neg hz, if_neg hz]
        have hw := woI_bd (j := e) h0 h1 he
        refine sm_congr (fun q hq => ?_)
        rw [hr q e hq he, gTf_back hr f (woI S e) s q hw.1 hw.2 hs hq]
    · rw [if_neg hb, if_neg hb]
theorem gTf_self {f : Nat} {S : Int} {s : Nat} (h0 : 0 ≤ S) (h1 : S < 64) (hs : s < 6) (h2 : 2 ≤ pcN S) : gTf r f S s s = 0 := by
  cases f with
  | zero => simp [gTf]
  | succ f =>
    rw [gTf]
    by_cases hb : isB S s = true
    · have hc := pc_wo h0 h1 hs hb
      have hw := woI_bd (j := s) h0 h1 hs
      have hn : isB (woI S s) s = false := by rw [woI_isB h0 h1 hs hs]; simp
      rw [if_pos hb, if_neg (by intro c; rw [c] at hc; have : pcN 0 = 0 := by decide
                                omega)]
      exact sm_zero (fun q hq => by
        split
        · exact gTf_in _ _ _ _ hw.1 hw.2 hq hs hn
        · rfl)
    · rw [if_neg hb]
/-- Lines come in pairs. -/
theorem lTf_even (hr : ∀ a b, a < 6 → b < 6 → r a b = r b a) {f : Nat} {S : Int} (h0 : 0 ≤ S) (h1 : S < 64) (h2 : 2 ≤ pcN S) : (sm (fun s => lTf r f S s)) % 2 = 0 := by
  rw [sm_congr (fun s hs => lTf_sum f S s hs)]
  have B := fun a b (ha : a < 6) (hb : b < 6) => gTf_back hr f S a b h0 h1 ha hb
  have Z := fun a (ha : a < 6) => gTf_self (r := r) (f := f) h0 h1 ha h2
  generalize gTf r f S = g at B Z
  have z0 := Z 0 (by omega); have z1 := Z 1 (by omega); have z2 := Z 2 (by omega); have z3 := Z 3 (by omega); have z4 := Z 4 (by omega); have z5 := Z 5 (by omega)
  have b01 := B 0 1 (by omega) (by omega); have b02 := B 0 2 (by omega) (by omega); have b03 := B 0 3 (by omega) (by omega); have b04 := B 0 4 (by omega) (by omega); have b05 := B 0 5 (by omega) (by omega)
  have b12 := B 1 2 (by omega) (by omega); have b13 := B 1 3 (by omega) (by omega); have b14 := B 1 4 (by omega) (by omega); have b15 := B 1 5 (by omega) (by omega)
  have b23 := B 2 3 (by omega) (by omega); have b24 := B 2 4 (by omega) (by omega); have b25 := B 2 5 (by omega) (by omega)
  have b34 := B 3 4 (by omega) (by omega); have b35 := B 3 5 (by omega) (by omega); have b45 := B 4 5 (by omega) (by omega)
  clear B Z
  simp only [sm]
  rw [z0, z1, z2, z3, z4, z5, b01, b02, b03, b04, b05, b12, b13, b14, b15, b23, b24, b25, b34, b35, b45]
  omega
end
end Go.Proofs.Ytoklehmoeollfaa
