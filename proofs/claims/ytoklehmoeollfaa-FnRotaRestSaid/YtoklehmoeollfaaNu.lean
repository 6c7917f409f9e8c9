/- What the laws of plans say: years left out. -/
import Derived.Test.YtoklehmoeollfaaNk
import Derived.Test.YtoklehmoeollfaaBi
namespace Go.Proofs.Ytoklehmoeollfaa
open Go Go.ChangeShapes Go.WideShapes Go.ChangeAt Go.RowKit
set_option linter.unusedVariables false
set_option linter.unusedSimpArgs false

theorem rwK_drop (rows : List (List Int)) (j : Nat) : rwK (rows.drop 1) j = rwK rows (1 + j) := by
  unfold rwK; rw [List.getD_eq_getElem?_getD, List.getD_eq_getElem?_getD, List.getElem?_drop]
theorem rwK_take {rows : List (List Int)} {k j : Nat} (h : j < k) : rwK (rows.take k) j = rwK rows j := by
  unfold rwK; rw [List.getD_eq_getElem?_getD, List.getD_eq_getElem?_getD, List.getElem?_take_of_lt h]
theorem rv_drop {rows : List (List Int)} (h : rvB rows = true) : rvB (rows.drop 1) = true := by
  obtain ⟨a, b⟩ := rvB_iff.1 h
  refine rvB_iff.2 ⟨by simp; omega, fun j hj => ?_⟩
  simp only [List.length_drop] at hj
  have h1 := b (1 + j) (by omega)
  have h0 := b 1 (by omega)
  unfold RwOk
  rw [rwK_drop, rwK_drop]
  exact ⟨h1.1, h1.2.1.trans h0.2.1.symm, h1.2.2⟩
theorem rv_take {rows : List (List Int)} (h : rvB rows = true) (k : Nat) : rvB (rows.take k) = true := by
  obtain ⟨a, b⟩ := rvB_iff.1 h
  refine rvB_iff.2 ⟨by simp; omega, fun j hj => ?_⟩
  simp only [List.length_take] at hj
  have h1 := b j (by omega)
  unfold RwOk
  rw [rwK_take (by omega), rwK_take (by omega)]
  exact h1
theorem rv_nil : rvB [] = true := by decide
theorem hit_take {rows : List (List Int)} {k y z b : Nat} (h : HitR (rows.take k) y z b) : HitR rows y z b := by
  obtain ⟨h1, h2, h3, h4⟩ := h
  simp only [List.length_take] at h2
  rw [rwK_take (by omega)] at h3 h4
  rw [rwK_take (by omega)] at h4
  exact ⟨h1, by omega, h3, h4⟩
theorem rest_take {rows : List (List Int)} {k : Nat} {r r' : Int} (h : RestIs rows r) (h' : RestIs (rows.take k) r') : r ≤ r' := by
  rcases h'.ex with e | ⟨y, z, b, c, e⟩
  · rw [e]; exact h.hi
  · rw [e]; exact h.le y z b trivial (hit_take c)
section
variable {w : World} {A : Option Addr} {hs : List VH} {rows : List (List Int)}
theorem NRow.take (h : NRow w A hs rows) (k : Nat) : NRow w A (hs.take k) (rows.take k) := by
  refine ⟨h.hd.cutB k, by simp [h.len], fun i a b => ?_, fun i a b => ?_⟩
  · simp only [List.length_take] at a b
    rw [List.getElem_take, List.getElem_take]; exact h.rl i (by omega) (by omega)
  · simp only [List.length_take] at a b
    rw [List.getElem_take, List.getElem_take]; exact h.row i (by omega) (by omega)
theorem NRow.drop1 {b : Nat} (h : NRow w (some ⟨b, 0, none⟩) hs rows) : NRow w (some ⟨b, 1, none⟩) (hs.drop 1) (rows.drop 1) := by
  have hd := h.hd.dropB 1
  rw [show 0 + 1 * encH.k = 1 from rfl] at hd
  refine ⟨hd, by simp [h.len], fun i a b => ?_, fun i a b => ?_⟩
  · simp only [List.length_drop] at a b
    rw [List.getElem_drop, List.getElem_drop]; exact h.rl (1 + i) (by omega) (by omega)
  · simp only [List.length_drop] at a b
    rw [List.getElem_drop, List.getElem_drop]; exact h.row (1 + i) (by omega) (by omega)
end
end Go.Proofs.Ytoklehmoeollfaa
