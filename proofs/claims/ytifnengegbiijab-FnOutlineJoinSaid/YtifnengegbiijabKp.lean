/- Houses, outlines and who is seen: plain mathematics of the laws. -/
import Derived.Test.YtifnengegbiijabKm
namespace Go.Proofs.Ytifnengegbiijab
set_option linter.unusedVariables false
set_option linter.unusedSimpArgs false

theorem olB_iff {xs : List (Int × Int)} : olB xs = true ↔ okE (-1) 0 xs = true ∧ (lastE xs).2 = 0 := ⟨ol_okE, fun h => ol_mk h.1 h.2⟩
theorem ol_init {xs : List (Int × Int)} {n : Nat} (h : olB xs = true) (hn : xs.length = n + 1) : olB (xs.take n) = false := by
  have hk : n < xs.length := by omega
  have h1 := ol_okE h
  have e1 : xs.take (n + 1) = xs := List.take_of_length_le (by omega)
  have h2 : okE (-1) 0 (xs.take (n + 1)) = true := by rw [e1]; exact h1.1
  rw [ok_step hk, Bool.and_eq_true] at h2
  have h3 := h2.2
  unfold edB at h3; simp only [decide_eq_true_eq] at h3
  have h4 : lastE xs = xs[n] := by have := last_take hk; rwa [e1] at this
  rw [h4] at h1
  cases hb : olB (xs.take n) with
  | false => rfl
  | true =>
    have := (ol_okE hb).2
    exact absurd (h1.2.trans this.symm) h3.2.2.2.2
theorem okE_split {b0 b1 : Int} : ∀ {xs : List (Int × Int)} {k : Nat} (hk : k < xs.length), okE b0 b1 xs = true → (∀ e ∈ xs.take k, e.1 < xs[k].1) ∧ (∀ e ∈ xs.drop (k + 1), xs[k].1 < e.1) := by
  intro xs k hk h
  have hp := okE_inc h
  rw [List.pairwise_iff_getElem] at hp
  constructor
  · intro e he
    obtain ⟨i, hi, rfl⟩ := List.mem_iff_getElem.1 he
    rw [List.getElem_take]
    simp at hi
    exact hp i k (by omega) hk (by omega)
  · intro e he
    obtain ⟨i, hi, rfl⟩ := List.mem_iff_getElem.1 he
    rw [List.getElem_drop]
    simp at hi
    exact hp k (k + 1 + i) hk (by omega) (by omega)
theorem oa_edge {xs : List (Int × Int)} (h : olB xs = true) {k : Nat} (hk : k < xs.length) : oaI xs xs[k].1 = xs[k].2 ∧ ¬ oaI xs (xs[k].1 - 1) = xs[k].2 := by
  have h1 := ol_okE h
  obtain ⟨s1, s2⟩ := okE_split hk h1.1
  have e : xs = xs.take k ++ (xs[k] :: xs.drop (k + 1)) := by rw [← List.drop_eq_getElem_cons hk, List.take_append_drop]
  have hfold : ∀ p, atO xs p = (xs.drop (k + 1)).foldl (upE p) (upE p ((xs.take k).foldl (upE p) 0) xs[k]) := by
    intro p; unfold atO; conv => lhs; rw [e]
    rw [List.foldl_append, List.foldl_cons]
  constructor
  · unfold oaI; rw [if_pos h, hfold, fold_low (fun e he => s2 e he)]
    unfold upE; rw [if_pos (by omega)]
  · unfold oaI; rw [if_pos h, hfold, fold_low (fun e he => by have := s2 e he; omega)]
    have hu : ∀ t, upE (xs[k].1 - 1) t xs[k] = t := fun t => by unfold upE; rw [if_neg (by omega)]
    rw [hu, fold_high (q := -1) (fun e he => by have := s1 e he; omega)]
    have h2 : okE (-1) 0 (xs.take (k + 1)) = true := by
      cases hb : okE (-1) 0 (xs.take (k + 1)) with
      | true => rfl
      | false => have := okE_app (-1) 0 _ (xs.drop (k + 1)) hb; rw [List.take_append_drop] at this; rw [this] at h1; exact h1.1
    rw [ok_step hk, Bool.and_eq_true] at h2
    have h3 := h2.2
    unfold edB at h3; simp only [decide_eq_true_eq] at h3
    exact fun e => h3.2.2.2.2 e.symm
/-- Whether t is 0, or one of the first houses is as high as t over p. -/
def sbB (xs : List (Int × Int × Int)) (p t : Int) (k : Nat) : Bool := decide (t = 0) || someH (xs.take k) p t
theorem sb_zero (xs : List (Int × Int × Int)) (p t : Int) : sbB xs p t 0 = decide (t = 0) := by simp [sbB, someH]
theorem sb_out {xs : List (Int × Int × Int)} {p t : Int} {k : Nat} (hk : k < xs.length) (h : ¬ (xs[k].1 ≤ p ∧ p < xs[k].2.1)) : sbB xs p t (k + 1) = sbB xs p t k := by
  unfold sbB someH; rw [List.take_succ_eq_append_getElem hk, List.any_append]; simp only [List.any_cons, List.any_nil, decide_eq_false h, Bool.false_and, Bool.or_false]
theorem sb_in {xs : List (Int × Int × Int)} {p t : Int} {k : Nat} (hk : k < xs.length) (h1 : xs[k].1 ≤ p) (h2 : p < xs[k].2.1) : sbB xs p t (k + 1) = (sbB xs p t k || decide (xs[k].2.2 = t)) := by
  unfold sbB someH; rw [List.take_succ_eq_append_getElem hk, List.any_append]; simp [h1, h2, Bool.or_assoc]
theorem sb_end {xs : List (Int × Int × Int)} (h : hsB xs = true) (p : Int) {n k : Nat} (hn : xs.length = n) (hk : n ≤ k) : sbB xs p (haI xs p) k = true := by
  rw [hsB_iff] at h
  have e : haI xs p = atH xs p := by unfold haI; rw [if_pos (hsB_iff.2 h)]
  unfold sbB; rw [e, List.take_of_length_le (by omega)]
  by_cases c : atH xs p = 0
  · simp [c]
  · rw [someH_at h.2 c]; simp
theorem ha_ge {xs : List (Int × Int × Int)} (h : hsB xs = true) {p : Int} {k : Nat} (hk : k < xs.length) (h1 : xs[k].1 ≤ p) (h2 : p < xs[k].2.1) : xs[k].2.2 ≤ haI xs p := by
  unfold haI; rw [if_pos h]; exact atH_ge (List.getElem_mem hk) ⟨h1, h2⟩
-- sums over edges
theorem edge_term {xs : List (Int × Int)} (h : olB xs = true) {k : Nat} (hk : k + 1 < xs.length) : 0 ≤ xs[k].2 ∧ xs[k].2 ≤ 20 ∧ 0 ≤ xs[k + 1].1 - xs[k].1 ∧ xs[k + 1].1 - xs[k].1 ≤ 40 := by
  have r1 := ol_rng h xs[k] (List.getElem_mem (by omega))
  have r2 := ol_rng h xs[k + 1] (List.getElem_mem hk)
  have hp := okE_inc (ol_okE h).1
  rw [List.pairwise_iff_getElem] at hp
  have := hp k (k + 1) (by omega) hk (by omega)
  omega
theorem edgeSum_rng {xs : List (Int × Int)} (h : olB xs = true) : ∀ k : Nat, 0 ≤ edgeSum xs k ∧ edgeSum xs k ≤ 800 * k
  | 0 => by simp [edgeSum]
  | k + 1 => by
    have i := edgeSum_rng h k
    rw [edgeSum]; split
    · rename_i hk
      obtain ⟨a0, a1, b0, b1⟩ := edge_term h hk
      have m0 : 0 ≤ xs[k].2 * (xs[k + 1].1 - xs[k].1) := Int.mul_nonneg a0 b0
      have m1 : xs[k].2 * (xs[k + 1].1 - xs[k].1) ≤ 20 * 40 := Int.mul_le_mul a1 b1 b0 (by omega)
      omega
    · omega
theorem edgeSum_next {xs : List (Int × Int)} {k : Nat} (hk : k + 1 < xs.length) : edgeSum xs (k + 1) = edgeSum xs k + xs[k].2 * (xs[k + 1].1 - xs[k].1) := by rw [edgeSum, dif_pos hk]
theorem edgeSum_end {xs : List (Int × Int)} (h : olB xs = true) {k : Nat} (hk : ¬ k + 1 < xs.length) (hk2 : k ≤ xs.length) (hk3 : xs.length ≤ k + 1) : edgeSum xs k = arI xs := by
  have e : arI xs = edgeSum xs xs.length := by unfold arI; rw [if_pos h]; exact area_edges h
  rw [e]
  by_cases c : k = xs.length
  · rw [c]
  · have : xs.length = k + 1 := by omega
    rw [this, edgeSum, dif_neg (by omega)]; omega
end Go.Proofs.Ytifnengegbiijab
