/- What the laws of rows ask. -/
import Derived.Test.YtidppabconifkabZm
namespace Go.Proofs.Ytidppabconifkab
set_option linter.unusedVariables false
set_option linter.unusedSimpArgs false
theorem rw_snoc7 (xs : List Int) : rwB (xs ++ [(-1)]) = false := by
  have : vlB (-1) = false := by decide
  unfold rwB; simp [this]
theorem rw_nil7 : rwB [] = true := by decide
theorem rw_drop7 {xs : List Int} (h : rwB xs = true) : rwB (xs.drop 1) = true := by
  rw [rwB_iff] at h ⊢
  exact ⟨by have := h.1; rw [List.length_drop]; omega, fun p hp => h.2 p (List.mem_of_mem_drop hp)⟩
theorem sum_step7 {xs : List Int} {k : Nat} (hk : k < xs.length) : (xs.take (k + 1)).sum = (xs.take k).sum + xs[k] := by
  rw [List.take_succ_eq_append_getElem hk, List.sum_append]; simp
theorem sum_bd7 : ∀ (a : List Int), (∀ x ∈ a, 0 ≤ x ∧ x ≤ 50) → 0 ≤ a.sum ∧ a.sum ≤ 50 * a.length
  | [], _ => by simp
  | x :: a, h => by
    have h1 := sum_bd7 a (fun y hy => h y (by simp [hy]))
    have h2 := h x (by simp)
    simp; omega
theorem rev_step7 {xs : List Int} {j : Nat} (hj : j < xs.length) : (xs.drop j).reverse = (xs.drop (j + 1)).reverse ++ [xs[j]] := by
  rw [List.drop_eq_getElem_cons hj, List.reverse_cons]
theorem bk_drop_bd7 {xs : List Int} (h : rwB xs = true) : bk xs ≤ 500 := by
  have h1 := bk_bd xs (fun x hx => (rwB_iff.1 h).2 x hx)
  have h2 := (rwB_iff.1 h).1
  omega
theorem bk_drop7 (xs : List Int) : bk (xs.drop 1) ≤ bk xs := by
  cases xs with
  | nil => simp
  | cons x xs => exact bk_tail x xs
theorem roB_tail7 {xs us : List Int} (h : roB xs us = true) : roB xs (us.drop 1) = true := by
  cases us with
  | nil => simpa using h
  | cons u us => exact roB_tail h
theorem roB_beside7 {xs us : List Int} {l : Int} (h : us.getLast? = some l) : roB xs (us ++ [l + 1]) = false := by
  rw [roB_okF, okF_beside h]; simp
theorem roB_nil7 (xs : List Int) : roB xs [] = rwB xs := by rw [roB_okF]; simp [okF]
theorem rsI_nn7 {xs us : List Int} (h : roB xs us = true) : 0 ≤ rsI xs us := by
  rw [rsI_eq, if_pos h]
  have hr : rwB xs = true := by unfold roB at h; rw [Bool.and_eq_true] at h; exact h.1
  unfold rsT
  refine sum_nn _ (fun y hy => ?_)
  obtain ⟨u, _, rfl⟩ := List.mem_map.1 hy
  by_cases hu : u.toNat < xs.length
  · have := rwB_at hr hu
    simp [hu]; omega
  · simp [List.getD_eq_getElem?_getD, List.getElem?_eq_none (by omega : xs.length ≤ u.toNat)]
end Go.Proofs.Ytidppabconifkab
