/- What the law of EntryAt says. -/
import Derived.Test.YtpmbjdfecbmgoabBz
namespace Go.Proofs.Ytpmbjdfecbmgoab
open Go Go.ChangeShapes Go.WideShapes Go.ChangeAt Go.RowKit
set_option linter.unusedSimpArgs false
set_option linter.unusedVariables false

theorem enR_gt : ∀ (xs : List (Int × ByteArray)) (p : Int), enR p xs = true → ∀ x ∈ xs, p < x.1
  | [], p, _, x, hx => by simp at hx
  | y :: xs, p, h, x, hx => by
    simp only [enR, enV, Bool.and_eq_true, decide_eq_true_eq] at h
    rcases List.mem_cons.1 hx with rfl | hx
    · exact h.1.1
    · have := enR_gt xs _ h.2 x hx; have := h.1.1; omega
theorem eaF_gt (m : Int) : ∀ (xs : List (Int × ByteArray)) (t : ByteArray), (∀ x ∈ xs, m < x.1) → eaF m t xs = t
  | [], t, _ => rfl
  | y :: xs, t, h => by
    have h1 := h y (List.mem_cons_self ..)
    simp only [eaF]; rw [if_neg (by omega)]
    exact eaF_gt m xs t fun x hx => h x (List.mem_cons_of_mem _ hx)
theorem eaF_at : ∀ (xs : List (Int × ByteArray)) (p : Int), enR p xs = true → ∀ (k : Nat) (hk : k < xs.length) (t : ByteArray), eaF xs[k].1 t xs = xs[k].2
  | [], p, _, k, hk, t => by simp at hk
  | y :: xs, p, h, 0, hk, t => by
    simp only [enR, Bool.and_eq_true] at h
    simp only [eaF, List.getElem_cons_zero]; rw [if_pos (Int.le_refl _)]
    exact eaF_gt _ xs _ (enR_gt xs _ h.2)
  | y :: xs, p, h, k + 1, hk, t => by
    simp only [enR, Bool.and_eq_true] at h
    simp only [eaF, List.getElem_cons_succ]
    exact eaF_at xs _ h.2 k (by simpa using hk) _
theorem eaF_congr {m m2 : Int} : ∀ (xs : List (Int × ByteArray)) (t : ByteArray), (∀ x ∈ xs, x.1 ≤ m ↔ x.1 ≤ m2) → eaF m t xs = eaF m2 t xs
  | [], t, _ => rfl
  | y :: xs, t, h => by
    have h1 := h y (List.mem_cons_self ..)
    simp only [eaF]
    rw [show (if y.1 ≤ m then y.2 else t) = (if y.1 ≤ m2 then y.2 else t) by simp only [h1]]
    exact eaF_congr xs _ fun x hx => h x (List.mem_cons_of_mem _ hx)
theorem eaF_le {m : Int} {xs : List (Int × ByteArray)} {j : Nat} (hj : j < xs.length) (e : j + 1 = xs.length) (h : ∀ x ∈ xs, x.1 ≤ m) (t : ByteArray) : eaF m t xs = xs[j].2 := by
  have h9 := eaF_step hj m t
  rw [List.take_of_length_le (by omega), if_pos (h _ (List.getElem_mem hj))] at h9
  exact h9
theorem eaT_at {xs : List (Int × ByteArray)} (h : enB xs = true) {k : Nat} (hk : k < xs.length) : eaT xs xs[k].1 = xs[k].2 := by
  obtain ⟨h0, h1⟩ := enB_rng h hk
  rw [eaT_yes (j := xs.length - 1) (by omega) (by omega) h (by unfold inV; simp; omega)]
  exact eaF_at xs _ (enB_iff.1 h).2 k hk _
theorem eaT_stay {xs : List (Int × ByteArray)} {m j : Int} (h : enB xs = true) (hl : xs.length ≠ 0) (m0 : 0 ≤ m) (m1 : m ≤ 1439) (j0 : 0 ≤ j) (hj : j < nxF m 1440 xs) : eaT xs ((m + j) % 1440) = eaT xs m := by
  have hb := nx_bd m xs
  have hw : ∀ x ∈ xs, (0 ≤ x.1 ∧ x.1 ≤ 1439) ∧ j < enW m x := fun x hx => ⟨enR_rng _ _ (enB_iff.1 h).2 x hx, by have := (nxF_le m xs 1440).2 x hx; omega⟩
  rw [eaT_yes (j := xs.length - 1) (by omega) (by omega) h (by unfold inV; simp; omega), eaT_yes (j := xs.length - 1) (by omega) (by omega) h (by unfold inV; simp; omega)]
  by_cases hc : m + j < 1440
  · refine eaF_congr xs _ fun x hx => ?_
    obtain ⟨⟨x0, x1⟩, hx2⟩ := hw x hx
    unfold enW at hx2; omega
  · rw [eaF_gt ((m + j) % 1440) xs _ (fun x hx => by obtain ⟨⟨x0, x1⟩, hx2⟩ := hw x hx; unfold enW at hx2; omega), eaF_le (j := xs.length - 1) (by omega) (by omega) (fun x hx => by obtain ⟨⟨x0, x1⟩, hx2⟩ := hw x hx; unfold enW at hx2; omega)]
theorem eaT_ok {xs : List (Int × ByteArray)} {m : Int} {t : ByteArray} (e : eaT xs m = t) (h : t.toList.isEmpty = false) : enB xs = true ∧ inV m 0 1439 = true ∧ xs.length ≠ 0 := by
  have hz : ∀ (s : ByteArray), s = ByteArray.empty → s.toList.isEmpty = true := fun s hs => by subst hs; first | (rw [ByteArray.toList_eq]; rfl) | (simp [ByteArray.toList_eq]; done) | decide +kernel
  refine ⟨?_, ?_, ?_⟩
  · cases h9 : enB xs with
    | true => rfl
    | false => rw [hz t (e.symm.trans (eaT_no1 h9))] at h; cases h
  · cases h9 : inV m 0 1439 with
    | true => rfl
    | false => rw [hz t (e.symm.trans (eaT_no2 h9))] at h; cases h
  · intro h9; rw [hz t (e.symm.trans (eaT_nil h9))] at h; cases h
end Go.Proofs.Ytpmbjdfecbmgoab
