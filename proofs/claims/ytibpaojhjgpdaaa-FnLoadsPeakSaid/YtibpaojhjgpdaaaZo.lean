/- Loads that are put into hours: plain mathematics of chapter 7. -/
import Derived.Test.YtibpaojhjgpdaaaZk
namespace Go.Proofs.Ytibpaojhjgpdaaa
set_option linter.unusedVariables false
set_option linter.unusedSimpArgs false
/-- The first k hours lie within their loads. -/
def inK (xs : List (Int × Int)) (hs : List Int) : Nat → Bool
  | 0 => true
  | k + 1 => inK xs hs k && decide ((xs.getD k (0, 0)).1 ≤ hs.getD k 0 ∧ hs.getD k 0 ≤ (xs.getD k (0, 0)).2)
theorem inK_down {xs : List (Int × Int)} {hs : List Int} : ∀ {m k : Nat}, k ≤ m → inK xs hs m = true → inK xs hs k = true
  | 0, k, h, hm => by obtain rfl : k = 0 := by omega
                      exact hm
  | m + 1, k, h, hm => by
    by_cases e : k = m + 1
    · subst e; exact hm
    · rw [inK] at hm
      simp only [Bool.and_eq_true] at hm
      exact inK_down (by omega) hm.1
theorem inK_no {xs : List (Int × Int)} {hs : List Int} {k m : Nat} (hk : k < m) (h : ¬ ((xs.getD k (0, 0)).1 ≤ hs.getD k 0 ∧ hs.getD k 0 ≤ (xs.getD k (0, 0)).2)) : inK xs hs m = false := by
  cases e : inK xs hs m
  · rfl
  · have := inK_down (k := k + 1) (by omega) e
    rw [inK] at this
    simp only [Bool.and_eq_true, decide_eq_true_eq] at this
    omega
def pkK (hs : List Int) : Nat → Int
  | 0 => 0
  | k + 1 => max (pkK hs k) ((hs.take (k + 1)).count (hs.getD k 0) : Nat)
def lpI (xs : List (Int × Int)) (hs : List Int) : Int := if (ldB xs && (decide (hs.length = xs.length) && inK xs hs hs.length)) = true then pkK hs hs.length else -1
/-- The greatest of a list, at least 0. -/
def mx : List Int → Int
  | [] => 0
  | x :: xs => max x (mx xs)
theorem mx_nn : ∀ l : List Int, 0 ≤ mx l
  | [] => by simp [mx]
  | x :: xs => by have := mx_nn xs; simp only [mx]; omega
theorem mx_set : ∀ (l : List Int) (c : Nat) (v : Int) (h : c < l.length), l[c] ≤ v → mx (l.set c v) = max (mx l) v
  | [], c, v, h, _ => by simp at h
  | x :: xs, 0, v, _, hv => by simp only [List.set_cons_zero, mx]; simp at hv; omega
  | x :: xs, c + 1, v, h, hv => by
    have := mx_set xs c v (by simpa using h) (by simpa using hv)
    simp only [List.set_cons_succ, mx, this]; omega
/-- How many there are of each hour among the first k. -/
def cts (hs : List Int) (k : Nat) : List Int := (List.range 10).map fun c : Nat => ((hs.take k).count (c : Int) : Int)
theorem cts_len (hs : List Int) (k : Nat) : (cts hs k).length = 10 := by simp [cts]
theorem cts_at (hs : List Int) (k : Nat) {c : Nat} (h : c < (cts hs k).length) : (cts hs k)[c] = ((hs.take k).count (c : Int) : Int) := by simp [cts]
theorem cts_zero (hs : List Int) : cts hs 0 = List.replicate 10 0 := by
  apply List.ext_getElem
  · simp [cts]
  · intro i h1 h2; simp only [cts, List.getElem_map, List.getElem_range, List.getElem_replicate, List.take_zero]; rfl
theorem cts_step {hs : List Int} {k c : Nat} (hk : k < hs.length) (hc : hs[k] = (c : Int)) (h10 : c < (cts hs k).length) : (cts hs k).set c ((cts hs k)[c] + 1) = cts hs (k + 1) := by
  apply List.ext_getElem
  · simp [cts]
  · intro i h1 h2
    have eR := cts_at hs (k + 1) h2
    rw [eR]
    have e : (hs.take (k + 1)).count (i : Int) = (hs.take k).count (i : Int) + if hs[k] = (i : Int) then 1 else 0 := by
      rw [List.take_succ_eq_append_getElem hk, List.count_append, List.count_singleton]
      simp
    rw [e, hc]
    by_cases hi : i = c
    · subst hi; rw [List.getElem_set_self, cts_at]; simp
    · rw [List.getElem_set_ne (by omega), cts_at]
      have : ¬ ((c : Int) = (i : Int)) := by omega
      simp [this]
theorem mx_cts {hs : List Int} (hb : ∀ x ∈ hs, 0 ≤ x ∧ x ≤ 9) : ∀ k, k ≤ hs.length → mx (cts hs k) = pkK hs k
  | 0, _ => by rw [cts_zero]; show mx (List.replicate 10 0) = 0; decide
  | k + 1, hk => by
    have hk1 : k < hs.length := by omega
    have hx := hb hs[k] (List.getElem_mem hk1)
    obtain ⟨c, hc⟩ : ∃ c : Nat, hs[k] = (c : Int) := ⟨hs[k].toNat, by omega⟩
    have h10 : c < (cts hs k).length := by rw [cts_len]; omega
    have ih := mx_cts hb k (by omega)
    have h1 := cts_step hk1 hc h10
    rw [← h1, mx_set _ _ _ h10 (by omega), ih, pkK]
    have e2 : hs.getD k 0 = (c : Int) := by simp [hk1, hc]
    rw [e2]
    have e3 : ((hs.take (k + 1)).count (c : Int) : Int) = (cts hs k)[c] + 1 := by
      rw [cts_at, List.take_succ_eq_append_getElem hk1, List.count_append, hc]; simp
    rw [e3]
theorem cnt_le7 (hs : List Int) (k : Nat) (c : Int) : (hs.take k).count c ≤ k := by
  have := List.count_le_length (a := c) (l := hs.take k)
  rw [List.length_take] at this; omega
theorem pkK_bd (hs : List Int) : ∀ k, 0 ≤ pkK hs k ∧ pkK hs k ≤ k
  | 0 => by simp [pkK]
  | k + 1 => by
    have h1 := pkK_bd hs k
    have h2 := cnt_le7 hs (k + 1) (hs.getD k 0)
    simp only [pkK]; omega
end Go.Proofs.Ytibpaojhjgpdaaa
