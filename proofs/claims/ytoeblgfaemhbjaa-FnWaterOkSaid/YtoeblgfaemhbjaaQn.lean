/- What the laws of chapter 9 say: plain mathematics. -/
import Derived.Test.YtoeblgfaemhbjaaQm
namespace Go.Proofs.Ytoeblgfaemhbjaa
set_option linter.unusedVariables false
set_option linter.unusedSimpArgs false

theorem bs_drop9 {xs : List Int} (h : bsB xs = true) : bsB (xs.drop 1) = true := by
  cases xs with
  | nil => exact h
  | cons x xs => exact bsB_tail h
theorem pt_drop9 {xs : List (Int × Int)} (h : ptB xs = true) : ptB (xs.drop 1) = true := by
  cases xs with
  | nil => exact h
  | cons x xs => exact ptB_tail h
theorem bs_snoc9 (xs : List Int) : bsB (xs ++ [(-1)]) = false := bsB_bad xs
theorem pt_snoc9 (xs : List (Int × Int)) : ptB (xs ++ [(2, 1)]) = false := ptB_bad xs
theorem bs_nil9 : bsB [] = true := rfl
theorem pt_nil9 : ptB [] = true := rfl
theorem map_fst_zip : ∀ (ts : List Int) (ds : List Bool), ds.length = ts.length → (ts.zip ds).map Prod.fst = ts
  | [], ds, h => by simp
  | t :: ts, [], h => by simp at h
  | t :: ts, d :: ds, h => by simp [map_fst_zip ts ds (by simpa using h)]
theorem map_snd_zip : ∀ (ts : List Int) (ds : List Bool), ds.length = ts.length → (ts.zip ds).map Prod.snd = ds
  | [], [], h => by simp
  | [], d :: ds, h => by simp at h
  | t :: ts, [], h => by simp at h
  | t :: ts, d :: ds, h => by simp [map_snd_zip ts ds (by simpa using h)]
theorem water_le {wet full : Int} {ts : List Int} {ds : List Bool} (h : woB wet full ts ds = true) : 0 ≤ wrC wet full ts ∧ wrC wet full ts ≤ dyC ds := by
  obtain ⟨h1, h2, h3⟩ := woB_iff.1 h
  rw [(wr_yes h1).2]
  refine ⟨(wtC_nn full ts wet).1, ?_⟩
  obtain ⟨w, f, a⟩ := wtB_iff.1 h1
  have hw := inV_iff.1 w
  have hf := inV_iff.1 f
  have := water_least full (ts.zip ds) wet wet (fun z hz => snV_iff.1 (List.all_eq_true.1 a _ (List.of_mem_zip hz).1)) hf.1 (by omega) hw.1 h3
  rw [map_fst_zip ts ds h2, map_snd_zip ts ds h2, if_pos (Int.le_refl _)] at this
  omega
theorem water_every {wet full : Int} {ts : List Int} {ds : List Bool} (h : woB wet full ts ds = true) : woB wet full ts (List.replicate ds.length true) = true := by
  obtain ⟨h1, h2, h3⟩ := woB_iff.1 h
  refine woB_iff.2 ⟨h1, by rw [List.length_replicate]; exact h2, ?_⟩
  obtain ⟨w, f, a⟩ := wtB_iff.1 h1
  have hf := inV_iff.1 f
  refine water_all full _ wet (fun z hz => ⟨?_, ?_⟩) hf.1
  · exact (snV_iff.1 (List.all_eq_true.1 a _ (List.of_mem_zip hz).1)).2
  · exact List.eq_of_mem_replicate (List.of_mem_zip hz).2
theorem dyC_yes {ds : List Bool} {k : Nat} (hk : k < ds.length) (h : ds[k] = true) : dyC (ds.drop k) = 1 + dyC (ds.drop (k + 1)) := by rw [drop_at hk, dyC, if_pos h]
theorem dyC_no {ds : List Bool} {k : Nat} (hk : k < ds.length) (h : ds[k] = false) : dyC (ds.drop k) = dyC (ds.drop (k + 1)) := by rw [drop_at hk, dyC, if_neg (by rw [h]; decide)]; omega
theorem rep_snoc (k : Nat) : List.replicate k true ++ [true] = List.replicate (k + 1) true := by rw [← List.replicate_succ']
/-- One step of the told run. -/
theorem run_step {full a : Int} {ts l : List Int} {k : Nat} (hk : k < ts.length) (hl : k < l.length) (h : l.drop k = wtR full a (ts.drop k)) : l[k] = wuI full a ts[k] - ts[k] ∧ l.drop (k + 1) = wtR full l[k] (ts.drop (k + 1)) := by
  rw [drop_at hk, drop_at hl, wtR] at h
  injection h with h1 h2
  exact ⟨h1, by rw [h2, h1]⟩
end Go.Proofs.Ytoeblgfaemhbjaa
