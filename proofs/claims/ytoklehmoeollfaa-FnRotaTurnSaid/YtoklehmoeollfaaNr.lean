/- What the law of turning plans says: plain mathematics over rows. -/
import Derived.Test.YtoklehmoeollfaaNp
namespace Go.Proofs.Ytoklehmoeollfaa
open Go Go.ChangeShapes Go.WideShapes Go.ChangeAt Go.RowKit
set_option linter.unusedVariables false
set_option linter.unusedSimpArgs false

theorem rtL_row {Y F j : Nat} (h : j < Y) : rwK (rtL Y F) j = rtP F j F := by
  unfold rwK
  rw [List.getD_eq_getElem?_getD, List.getElem?_eq_getElem (by rw [rtL_len]; exact h)]
  simp [rtL]
theorem rtP_at {F y b : Nat} (h : b < F) : (rtP F y F).getD b 0 = ((b : Int) + y) % F := by
  rw [List.getD_eq_getElem?_getD, List.getElem?_eq_getElem (by rw [rtP_len]; exact h)]
  simp [rtP]
/-- Every year every family is in a bed. -/
theorem rtP_has {F y f : Nat} (hf : f < F) : hsI (rtP F y F) (f : Int) = true := by
  rw [hsI_iff]
  have hF : (0 : Int) < F := by omega
  have h0 := Int.emod_nonneg ((f : Int) - y) (show (F : Int) ≠ 0 by omega)
  have h1 := Int.emod_lt_of_pos ((f : Int) - y) hF
  refine List.mem_map.2 ⟨(((f : Int) - y) % F).toNat, List.mem_range.2 (by omega), ?_⟩
  rw [Int.toNat_of_nonneg h0, Int.emod_add_emod, show (f : Int) - y + y = f by omega]
  exact Int.emod_eq_of_lt (by omega) (by omega)
theorem rtL_valid {Y F : Nat} (hY : Y ≤ 8) (hF : F ≤ 6) (h1 : 1 ≤ F) : rvB (rtL Y F) = true := by
  refine rvB_iff.2 ⟨by rw [rtL_len]; exact hY, fun j hj => ?_⟩
  rw [rtL_len] at hj
  refine ⟨by rw [rtL_row hj, rtP_len]; exact hF, by rw [rtL_row hj, rtL_row (show 0 < Y by omega), rtP_len, rtP_len], ?_⟩
  rw [rtL_row hj, List.all_eq_true]
  intro x hx
  obtain ⟨b, _, rfl⟩ := List.mem_map.1 hx
  have h0 := Int.emod_nonneg ((b : Int) + j) (show (F : Int) ≠ 0 by omega)
  have h1 := Int.emod_lt_of_pos ((b : Int) + j) (show (0 : Int) < F by omega)
  show inV _ 0 5 = true
  rw [inV_iff]; omega
theorem rt_far {Y F y z b : Nat} (h1 : 1 ≤ F) (hF : F ≤ 6) (h : HitR (rtL Y F) y z b) : F ≤ z - y := by
  obtain ⟨hyz, hz, hb, he⟩ := h
  rw [rtL_len] at hz
  rw [rtL_row (by omega), rtP_len] at hb
  rw [rtL_row (by omega), rtL_row hz, rtP_at hb, rtP_at hb] at he
  have : F = 1 ∨ F = 2 ∨ F = 3 ∨ F = 4 ∨ F = 5 ∨ F = 6 := by omega
  rcases this with rfl | rfl | rfl | rfl | rfl | rfl <;> simp at he <;> omega
theorem rt_rest {Y F : Nat} (hY : Y ≤ 8) (hF : F ≤ 6) (h1 : 1 ≤ F) : RestIs (rtL Y F) (if Y ≤ F then 8 else (F : Int)) := by
  by_cases c : Y ≤ F
  · rw [if_pos c]
    exact RestK.start (fun y z b _ k => by have := rt_far h1 hF k; have := k.2.1; rw [rtL_len] at this; omega)
  · rw [if_neg c]
    refine ⟨by omega, by omega, Or.inr ⟨0, F, 0, ⟨by omega, by rw [rtL_len]; omega, by rw [rtL_row (by omega), rtP_len]; omega, ?_⟩, by simp⟩, fun y z b _ k => by have := rt_far h1 hF k; have := k.1; omega⟩
    rw [rtL_row (by omega), rtL_row (by omega), rtP_at (by omega), rtP_at (by omega)]
    simp
theorem rt_rr {Y F : Nat} (hY : Y ≤ 8) (hF : F ≤ 6) (h1 : 1 ≤ F) : RrI (rtL Y F) (if Y ≤ F then 8 else (F : Int)) := Or.inr ⟨rtL_valid hY hF h1, rt_rest hY hF h1⟩
end Go.Proofs.Ytoklehmoeollfaa
