/- What the laws of stores ask. -/
import Derived.Test.YtfgaggdiepielabZn
namespace Go.Proofs.Ytfgaggdiepielab
set_option linter.unusedVariables false
set_option linter.unusedSimpArgs false
theorem hr_snoc7 (xs : List (Int × Int)) : hrB (xs ++ [(0, -1)]) = false := by
  have : hrV (0, -1) = false := by decide
  unfold hrB; simp [this]
theorem hr_nil7 : hrB [] = true := by decide
theorem hr_drop7 {xs : List (Int × Int)} (h : hrB xs = true) : hrB (xs.drop 1) = true := by
  rw [hrB_iff] at h ⊢
  exact ⟨by have := h.1; rw [List.length_drop]; omega, fun p hp => h.2 p (List.mem_of_mem_drop hp)⟩
theorem stL_yes {xs : List (Int × Int)} {holds has : Int} (h : stB xs holds has = true) : stL xs holds has = stR holds has xs := by unfold stL; rw [if_pos h]
theorem stL_no {xs : List (Int × Int)} {holds has : Int} (h : stB xs holds has = false) : stL xs holds has = [] := by unfold stL; rw [h]; simp
theorem stL_fact {xs : List (Int × Int)} {holds has : Int} {l l2 : List Int} (h1 : stL xs holds has = l) (h2 : stL xs holds (has + 1) = l2) {k : Nat} (hk : k < l.length) :
    (0 ≤ l[k] ∧ l[k] ≤ holds) ∧ ∀ hk2 : k < l2.length, l[k] ≤ l2[k] ∧ l2[k] ≤ l[k] + 1 := by
  cases hb : stB xs holds has
  · rw [stL_no hb] at h1; subst h1; simp at hk
  · rw [stL_yes hb] at h1; subst h1
    have hs := stB_iff.1 hb
    have hk0 : k < xs.length := by rwa [stR_len] at hk
    have e1 : (stR holds has xs)[k] = stE holds has (xs.take (k + 1)) := by
      have := stR_at (holds := holds) (has := has) hk0
      rw [List.getElem?_eq_getElem hk] at this
      exact Option.some.inj this
    rw [e1]
    refine ⟨stE_bd hs.2.1 _ _ hs.2.2.2.1 hs.2.2.2.2, fun hk2 => ?_⟩
    cases hb2 : stB xs holds (has + 1)
    · rw [stL_no hb2] at h2; subst h2; simp at hk2
    · rw [stL_yes hb2] at h2; subst h2
      have e2 : (stR holds (has + 1) xs)[k] = stE holds (has + 1) (xs.take (k + 1)) := by
        have := stR_at (holds := holds) (has := has + 1) hk0
        rw [List.getElem?_eq_getElem hk2] at this
        exact Option.some.inj this
      rw [e2]
      exact stE_more _ _ _ (by omega) (by omega)
theorem laI_yes {xs : List (Int × Int)} {holds has : Int} (h : stB xs holds has = true) : laI xs holds has = laR holds has xs := by unfold laI; rw [if_pos h]
theorem laI_no {xs : List (Int × Int)} {holds has : Int} (h : stB xs holds has = false) : laI xs holds has = -1 := by unfold laI; rw [h]; simp
theorem loI_yes {xs : List (Int × Int)} {holds has : Int} (h : stB xs holds has = true) : loI xs holds has = loR holds has xs := by unfold loI; rw [if_pos h]
theorem loI_no {xs : List (Int × Int)} {holds has : Int} (h : stB xs holds has = false) : loI xs holds has = -1 := by unfold loI; rw [h]; simp
theorem gnS_step {xs : List (Int × Int)} {k : Nat} (hk : k < xs.length) : gnS (xs.take (k + 1)) = gnS (xs.take k) + xs[k].1 - xs[k].2 := by
  unfold gnS
  rw [List.take_succ_eq_append_getElem hk, List.map_append, List.sum_append]; simp; omega
theorem gnS_bd : ∀ (xs : List (Int × Int)), (∀ x ∈ xs, hrV x = true) → -(20 * (xs.length : Int)) ≤ gnS xs ∧ gnS xs ≤ 20 * (xs.length : Int)
  | [], _ => by simp [gnS]
  | h :: xs, hx => by
    have h1 := gnS_bd xs (fun y hy => hx y (by simp [hy]))
    have h2 := hrV_iff.1 (hx h (by simp))
    have e : gnS (h :: xs) = h.1 - h.2 + gnS xs := by simp [gnS]
    rw [e]; simp only [List.length_cons]; push_cast; omega
theorem ngS_step {xs : List (Int × Int)} {k : Nat} (hk : k < xs.length) : ngS (xs.take (k + 1)) = ngS (xs.take k) + xs[k].2 - xs[k].1 := by
  unfold ngS
  rw [List.take_succ_eq_append_getElem hk, List.map_append, List.sum_append]; simp; omega
theorem ngS_gnS : ∀ (xs : List (Int × Int)), ngS xs = -gnS xs
  | [] => by simp [ngS, gnS]
  | h :: xs => by
    have e : gnS (h :: xs) = h.1 - h.2 + gnS xs := by simp [gnS]
    rw [ngS_cons, e, ngS_gnS xs]; omega
theorem lost_more {xs : List (Int × Int)} {holds has : Int} (h : stB xs holds has = true) (h2 : holds < 200) :
    0 ≤ loI xs (holds + 1) has ∧ loI xs (holds + 1) has ≤ loR holds has xs ∧ 0 ≤ laI xs (holds + 1) has ∧ laI xs (holds + 1) has ≤ laR holds has xs := by
  have hs := stB_iff.1 h
  have hb2 : stB xs (holds + 1) has = true := stB_iff.2 ⟨hs.1, by omega, by omega, by omega, by omega⟩
  rw [loI_yes hb2, laI_yes hb2]
  have h3 := store_more hs.2.1 xs has has (by omega) (by omega) (by omega) (by omega) (by omega)
  have h4 := loR_nn (holds + 1) xs has
  have h5 := laR_nn (holds + 1) xs has
  omega
end Go.Proofs.Ytfgaggdiepielab
