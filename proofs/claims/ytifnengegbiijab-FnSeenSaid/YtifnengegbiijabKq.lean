/- Who is seen: plain mathematics of the law. -/
import Derived.Test.YtifnengegbiijabKn
namespace Go.Proofs.Ytifnengegbiijab
set_option linter.unusedVariables false
set_option linter.unusedSimpArgs false

/-- Whether all numbers before the k-th are less. -/
def lsB (xs : List Int) (k j : Nat) : Bool := decide (∀ i, i < j → xs.getD i 0 < xs.getD k 0)
theorem ls_zero (xs : List Int) (k : Nat) : lsB xs k 0 = true := by unfold lsB; simp
theorem ls_next (xs : List Int) (k j : Nat) : lsB xs k (j + 1) = (lsB xs k j && decide (xs.getD j 0 < xs.getD k 0)) := by
  unfold lsB
  rw [Bool.eq_iff_iff, Bool.and_eq_true, decide_eq_true_eq, decide_eq_true_eq, decide_eq_true_eq]
  constructor
  · exact fun h => ⟨fun i hi => h i (by omega), h j (by omega)⟩
  · rintro ⟨h1, h2⟩ i hi
    by_cases c : i < j
    · exact h1 i c
    · obtain rfl : i = j := by omega
      exact h2
theorem snL_nat (xs : List Int) : ∀ (n : Nat) (a : Int), a ∈ snL xs n → ∃ k : Nat, a = (k : Int)
  | 0, a, h => by simp [snL] at h
  | n + 1, a, h => by
    have i := snL_nat xs n a
    rw [snL] at h
    split at h
    · rcases List.mem_append.1 h with h | h
      · exact i h
      · simp at h; exact ⟨n, h⟩
    · split at h
      · rcases List.mem_append.1 h with h | h
        · exact i h
        · simp at h; exact ⟨n, h⟩
      · exact i h
/-- The last one that is seen is the greatest of the first ones; all that are seen are told. -/
theorem snL_inv (xs : List Int) : ∀ n : Nat, (∀ j : Nat, (snL xs n).getLast? = some (j : Int) → ∀ i, i < n → xs.getD i 0 ≤ xs.getD j 0) ∧ (∀ k : Nat, (k : Int) ∈ snL xs n ↔ k < n ∧ lsB xs k k = true) ∧ (snL xs n).Pairwise (· < ·)
  | 0 => by simp [snL]
  | n + 1 => by
    obtain ⟨i1, i2, i3⟩ := snL_inv xs n
    have hlt : ∀ a ∈ snL xs n, a < (n : Int) := by
      intro a ha
      obtain ⟨k, rfl⟩ : ∃ k : Nat, a = (k : Int) := snL_nat xs n a ha
      have := ((i2 k).1 ha).1
      omega
    have key : ∀ l : List Int, ((lsB xs n n = true ∧ l = snL xs n ++ [(n : Int)]) ∨ (lsB xs n n = false ∧ l = snL xs n ∧ ∃ j : Nat, (snL xs n).getLast? = some (j : Int) ∧ ¬ xs.getD j 0 < xs.getD n 0)) →
        (∀ j : Nat, l.getLast? = some (j : Int) → ∀ i, i < n + 1 → xs.getD i 0 ≤ xs.getD j 0) ∧ (∀ k : Nat, (k : Int) ∈ l ↔ k < n + 1 ∧ lsB xs k k = true) ∧ l.Pairwise (· < ·) := by
      intro l hl
      rcases hl with ⟨hs, rfl⟩ | ⟨hs, rfl, j, hj, hno⟩
      · refine ⟨?_, ?_, ?_⟩
        · intro j hj i hi
          simp at hj
          obtain rfl : n = j := by omega
          by_cases c : i < n
          · have hs2 := of_decide_eq_true hs
            exact Int.le_of_lt (hs2 i c)
          · obtain rfl : i = n := by omega
            omega
        · intro k
          simp only [List.mem_append, i2 k, List.mem_singleton]
          constructor
          · rintro (⟨a, b⟩ | e)
            · exact ⟨by omega, b⟩
            · obtain rfl : k = n := by omega
              exact ⟨by omega, hs⟩
          · rintro ⟨a, b⟩
            by_cases c : k < n
            · exact .inl ⟨c, b⟩
            · obtain rfl : k = n := by omega
              exact .inr rfl
        · rw [List.pairwise_append]
          exact ⟨i3, by simp, fun a ha b hb => by simp at hb; rw [hb]; exact hlt a ha⟩
      · refine ⟨?_, ?_, i3⟩
        · intro j' hj' i hi
          rw [hj] at hj'
          obtain rfl : j = j' := by simp at hj'; omega
          by_cases c : i < n
          · exact i1 j hj i c
          · obtain rfl : i = n := by omega
            omega
        · intro k
          rw [i2 k]
          constructor
          · rintro ⟨a, b⟩; exact ⟨by omega, b⟩
          · rintro ⟨a, b⟩
            by_cases c : k < n
            · exact ⟨c, b⟩
            · obtain rfl : k = n := by omega
              rw [hs] at b; cases b
    rw [snL]
    cases hl : (snL xs n).getLast? with
    | none =>
      refine key _ (.inl ⟨?_, rfl⟩)
      have h0 : n = 0 := by
        by_cases c : 0 < n
        · obtain ⟨j, _, hj⟩ := snL_last xs n c; rw [hl] at hj; cases hj
        · omega
      subst h0; exact ls_zero xs 0
    | some z =>
      obtain ⟨j, rfl⟩ : ∃ j : Nat, z = (j : Int) := snL_nat xs n z (List.mem_of_getLast? hl)
      have hjn := ((i2 j).1 (List.mem_of_getLast? hl)).1
      simp only [Int.toNat_natCast]
      split
      · rename_i h
        refine key _ (.inl ⟨?_, rfl⟩)
        unfold lsB; rw [decide_eq_true_eq]
        intro i hi; have := i1 j hl i hi; omega
      · rename_i h
        refine key _ (.inr ⟨?_, rfl, j, hl, h⟩)
        unfold lsB; rw [decide_eq_false_iff_not]
        intro hh; exact h (hh j hjn)
theorem snL_has (xs : List Int) {n k : Nat} (hk : k < n) : decide ((k : Int) ∈ snL xs n) = lsB xs k k := by
  rw [Bool.eq_iff_iff, decide_eq_true_eq, (snL_inv xs n).2.1 k]
  exact ⟨fun h => h.2, fun h => ⟨hk, h⟩⟩
theorem snL_asc (xs : List Int) (n : Nat) : ∀ i (h : i + 1 < (snL xs n).length), (snL xs n)[i] < (snL xs n)[i + 1] := by
  have hp := (snL_inv xs n).2.2
  rw [List.pairwise_iff_getElem] at hp
  exact fun i h => hp i (i + 1) (by omega) h (by omega)
end Go.Proofs.Ytifnengegbiijab
