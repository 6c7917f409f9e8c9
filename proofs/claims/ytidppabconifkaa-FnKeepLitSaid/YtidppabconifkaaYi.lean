/- What the laws Dark, CitySet and LitCells of cities say: plain mathematics. -/
import Derived.Test.YtidppabconifkaaYh
namespace Go.Proofs.Ytidppabconifkaa
set_option linter.unusedVariables false
set_option linter.unusedSimpArgs false

theorem da_val {d c e f : Int} {xs : List Int} (hv : okB d xs e f = true) (hc : ceB xs c = true) : daB d xs c e f = dkB d xs e f c := by unfold daB; rw [hv, hc]; rfl
theorem da_noC {d c e f : Int} {xs : List Int} (h : ceB xs c = false) : daB d xs c e f = false := by unfold daB; rw [h]; simp
theorem da_noO {d c e f : Int} {xs : List Int} (h : ¬ (cvB d xs = true ∧ (0 ≤ e ∧ e ≤ 3) ∧ 0 ≤ f ∧ f ≤ 5)) : daB d xs c e f = false := by
  have : okB d xs e f = false := by rw [← Bool.not_eq_true, okB_iff]; exact h
  unfold daB; rw [this]; rfl
theorem ce_noX {c : Int} {xs : List Int} (h : ¬ (0 ≤ c ∧ c < xs.length)) : ceB xs c = false := by unfold ceB; rw [decide_eq_false_iff_not]; omega
theorem da_fall {d c e f : Int} {xs : List Int} (hv : okB d xs e f = true) (hc : ceB xs c = true) (h : daB d xs c e f = false) : daB d xs c e (f + 1) = false := by
  rw [da_val hv hc] at h
  have := dk_fall (okB_iff.1 hv).1 (okB_iff.1 hv).2.2.1 h
  unfold daB; rw [this]; simp
theorem cs_parts {d c t : Int} {xs : List Int} (h : csB d xs c t = true) : cvB d xs = true ∧ ceB xs c = true ∧ tlB t = true := by unfold csB at h; simpa using h
theorem da_high {d c e f : Int} {xs : List Int} (hv : okB d xs e f = true) (hc : ceB xs c = true) (h : daB d xs c e f = false) (ht : csB d xs c (tlI xs c + 1) = true) : daB d (xs.set c.toNat (tlI xs c + 1)) c e f = false := by
  rw [da_val hv hc] at h
  obtain ⟨hcv, ⟨e0, e1⟩, f0, f1⟩ := okB_iff.1 hv
  have := dk_higher hcv hc (dr_mk ⟨e0, e1⟩) f0 (tlB_iff.1 (cs_parts ht).2.2).2 h
  unfold daB; rw [this]; simp
theorem csD_yes {d c t : Int} {xs : List Int} (h : csB d xs c t = true) : csD d xs c t = d := if_pos h
theorem csL_yes {d c t : Int} {xs : List Int} (h : csB d xs c t = true) : csL d xs c t = xs.set c.toNat t := if_pos h
theorem csD_no {d c t : Int} {xs : List Int} (h : csB d xs c t = false) : csD d xs c t = 0 := by unfold csD; rw [h]; rfl
theorem csL_no {d c t : Int} {xs : List Int} (h : csB d xs c t = false) : csL d xs c t = [] := by unfold csL; rw [h]; rfl
theorem cs_back {d c t : Int} {xs : List Int} (h : csB d xs c t = true) : csB d (xs.set c.toNat t) c (tlI xs c) = true ∧ (xs.set c.toNat t).set c.toNat (tlI xs c) = xs ∧ cvB d (xs.set c.toNat t) = true ∧ csI d (xs.set c.toNat t) = suI xs xs.length + (t - tlI xs c) := by
  obtain ⟨hcv, hc, ht⟩ := cs_parts h
  have hv2 : cvB d (xs.set c.toNat t) = true := cv_set hcv ht
  have hcr := ce_rng hc
  have hlt : c.toNat < xs.length := by omega
  refine ⟨?_, ?_, hv2, ?_⟩
  · have h1 : ceB (xs.set c.toNat t) c = true := ce_mk (by rw [List.length_set]; exact hcr)
    have h2 := tlB_iff.2 (tlI_rng hcv c)
    unfold csB; rw [hv2, h1, h2]; rfl
  · rw [List.set_set]; unfold tlI
    have : xs.getD c.toNat 0 = xs[c.toNat] := by simp [hlt]
    rw [this]; exact List.set_getElem_self hlt
  · rw [cs_yes hv2, List.length_set, su_set hlt t, if_pos hlt]; rfl
/-- The greatest of the first k and 0. -/
def mxC (xs : List Int) : Nat → Int
  | 0 => 0
  | k + 1 => max (mxC xs k) (xs.getD k 0)
theorem mxC_next {xs : List Int} {k : Nat} (hk : k < xs.length) : mxC xs (k + 1) = max (mxC xs k) xs[k] := by rw [mxC]; simp [hk]
theorem mxC_ge {xs : List Int} : ∀ k i : Nat, i < k → xs.getD i 0 ≤ mxC xs k
  | 0, i, h => by omega
  | k + 1, i, h => by
    rw [mxC]
    by_cases e : i = k
    · subst e; omega
    · have := mxC_ge (xs := xs) k i (by omega); omega
theorem mxC_nn {xs : List Int} : ∀ k : Nat, 0 ≤ mxC xs k
  | 0 => by rw [mxC]; omega
  | k + 1 => by rw [mxC]; have := mxC_nn (xs := xs) k; omega
theorem mxC_has {d e f : Int} {xs : List Int} {k : Nat} (hv : okB d xs e f = true) (hk : k < xs.length) (h : xs[k] = mxC xs xs.length) : hasB (liL d xs e f) (k : Int) = true := by
  unfold hasB; rw [decide_eq_true_iff, li_yes hv, ltL_mem]
  refine ⟨by omega, by omega, ?_⟩
  obtain ⟨hcv, _, f0, _⟩ := okB_iff.1 hv
  refine dk_high hcv f0 (fun x => ?_)
  rw [tlI_at hk, h]
  unfold tlI
  by_cases hx : x.toNat < xs.length
  · exact mxC_ge _ _ hx
  · have : xs.getD x.toNat 0 = 0 := by simp only [List.getD_eq_getElem?_getD, List.getElem?_eq_none (Nat.le_of_not_lt hx)]; rfl
    rw [this]; exact mxC_nn _
theorem asc_snoc {l : List Int} {x : Int} (h : Asc l) (hx : ∀ y ∈ l, y < x) : Asc (l ++ [x]) := by
  intro i hi
  have hi2 : i + 1 < l.length + 1 := by simpa using hi
  by_cases h2 : i + 1 < l.length
  · rw [List.getElem_append_left (by omega), List.getElem_append_left h2]; exact h i h2
  · have e : i + 1 = l.length := by omega
    rw [List.getElem_append_left (by omega), List.getElem_append_right (by omega)]
    simp only [e, Nat.sub_self, List.getElem_cons_zero]
    exact hx _ (List.getElem_mem _)
theorem asc_lt (d : Int) (xs : List Int) (e f : Int) : ∀ k : Nat, Asc (ltL d xs e f k)
  | 0 => by intro i hi; simp [ltL_zero] at hi
  | k + 1 => by
    cases h : dkB d xs e f (k : Nat)
    · rw [ltL_yes h]; exact asc_snoc (asc_lt d xs e f k) (fun y hy => (ltL_mem.1 hy).2.1)
    · rw [ltL_no h]; exact asc_lt d xs e f k
theorem asc_li (d : Int) (xs : List Int) (e f : Int) : Asc (liL d xs e f) := by
  cases h : okB d xs e f
  · rw [li_no h]; intro i hi; simp at hi
  · rw [li_yes h]; exact asc_lt d xs e f _
theorem rowCel {w : World} {b off : Nat} {xs : List Int} (h : SRow encNum w (some ⟨b, off, none⟩) xs) {i : Nat} (hi : i < xs.length) {v : Int} (hv : xs[i] = v) : w.cell? ⟨b, off + i, none⟩ = some (.int .i64 v) := by
  obtain ⟨b', off', e, _, c⟩ := rowNum h hi
  cases e
  rw [c, hv]
end Go.Proofs.Ytidppabconifkaa
