/- Helpers: blocks of four and five cells. -/
import Derived.Test.YtigndpajpofofaaHlp2
namespace Go.Proofs.Ytigndpajpofofaa
open Go Go.ChangeShapes Go.WideShapes Go.ChangeAt Go.RowKit
set_option linter.unusedSimpArgs false
set_option linter.unusedVariables false

theorem blk4 {w : World} {b : Nat} {x0 x1 x2 x3 : Value} {t : TypeId} (h : w.heap[b]? = some (.cells #[x0, x1, x2, x3] t (0, 0))) :
    w.cell? ⟨b, 0, none⟩ = some x0 ∧ w.cell? ⟨b, 1, none⟩ = some x1 ∧ w.cell? ⟨b, 2, none⟩ = some x2 ∧ w.cell? ⟨b, 3, none⟩ = some x3 ∧ w.frozen? ⟨b, 0, none⟩ = false ∧ w.frozen? ⟨b, 1, none⟩ = false ∧ w.frozen? ⟨b, 2, none⟩ = false ∧ w.frozen? ⟨b, 3, none⟩ = false ∧ b < w.heap.size :=
  ⟨by simp [World.cell?, h], by simp [World.cell?, h], by simp [World.cell?, h], by simp [World.cell?, h], by simp [World.frozen?, h], by simp [World.frozen?, h], by simp [World.frozen?, h], by simp [World.frozen?, h], blk_lt h⟩
theorem blk5 {w : World} {b : Nat} {x0 x1 x2 x3 x4 : Value} {t : TypeId} (h : w.heap[b]? = some (.cells #[x0, x1, x2, x3, x4] t (0, 0))) :
    w.cell? ⟨b, 0, none⟩ = some x0 ∧ w.cell? ⟨b, 1, none⟩ = some x1 ∧ w.cell? ⟨b, 2, none⟩ = some x2 ∧ w.cell? ⟨b, 3, none⟩ = some x3 ∧ w.cell? ⟨b, 4, none⟩ = some x4 ∧ w.frozen? ⟨b, 0, none⟩ = false ∧ w.frozen? ⟨b, 1, none⟩ = false ∧ w.frozen? ⟨b, 2, none⟩ = false ∧ w.frozen? ⟨b, 3, none⟩ = false ∧ w.frozen? ⟨b, 4, none⟩ = false ∧ b < w.heap.size :=
  ⟨by simp [World.cell?, h], by simp [World.cell?, h], by simp [World.cell?, h], by simp [World.cell?, h], by simp [World.cell?, h], by simp [World.frozen?, h], by simp [World.frozen?, h], by simp [World.frozen?, h], by simp [World.frozen?, h], by simp [World.frozen?, h], blk_lt h⟩
theorem blk_at {w : World} {C : Nat} {t : TypeId} (i : Nat) (v : Value) (cs : Array Value) (h : w.heap[C]? = some (.cells cs t (0, 0))) : (w.setCell ⟨C, i, none⟩ v).heap[C]? = some (.cells (cs.setIfInBounds i v) t (0, 0)) := by
  simp [World.setCell, Array.getElem?_modify, h]
theorem blk4_put {w : World} {C : Nat} {x0 x1 x2 x3 y0 y1 y2 y3 : Value} {t : TypeId} (h : w.heap[C]? = some (.cells #[x0, x1, x2, x3] t (0, 0))) : ((((w.setCell ⟨C, 0, none⟩ y0).setCell ⟨C, 1, none⟩ y1).setCell ⟨C, 2, none⟩ y2).setCell ⟨C, 3, none⟩ y3).heap[C]? = some (.cells #[y0, y1, y2, y3] t (0, 0)) := by
  have := blk_at 3 y3 _ (blk_at 2 y2 _ (blk_at 1 y1 _ (blk_at 0 y0 _ (h))))
  rw [this]; simp
theorem blk_store4 {w : World} {k C : Nat} {o : Obj} (h : w.heap[k]? = some o) (hne : k ≠ C) (y0 y1 y2 y3 : Value) : ((((w.setCell ⟨C, 0, none⟩ y0).setCell ⟨C, 1, none⟩ y1).setCell ⟨C, 2, none⟩ y2).setCell ⟨C, 3, none⟩ y3).heap[k]? = some o :=
  blk_far (blk_far (blk_far (blk_far (h) hne y0) hne y1) hne y2) hne y3
theorem store4_bel {w0 w : World} {C : Nat} (h : Below w0.heap.size w0 w) (hC : w0.heap.size ≤ C) (y0 y1 y2 y3 : Value) : Below w0.heap.size w0 ((((w.setCell ⟨C, 0, none⟩ y0).setCell ⟨C, 1, none⟩ y1).setCell ⟨C, 2, none⟩ y2).setCell ⟨C, 3, none⟩ y3) :=
  ((((h).setCell (p := ⟨C, 0, none⟩) hC y0).setCell (p := ⟨C, 1, none⟩) hC y1).setCell (p := ⟨C, 2, none⟩) hC y2).setCell (p := ⟨C, 3, none⟩) hC y3
theorem blk5_put {w : World} {C : Nat} {x0 x1 x2 x3 x4 y0 y1 y2 y3 y4 : Value} {t : TypeId} (h : w.heap[C]? = some (.cells #[x0, x1, x2, x3, x4] t (0, 0))) : (((((w.setCell ⟨C, 0, none⟩ y0).setCell ⟨C, 1, none⟩ y1).setCell ⟨C, 2, none⟩ y2).setCell ⟨C, 3, none⟩ y3).setCell ⟨C, 4, none⟩ y4).heap[C]? = some (.cells #[y0, y1, y2, y3, y4] t (0, 0)) := by
  have := blk_at 4 y4 _ (blk_at 3 y3 _ (blk_at 2 y2 _ (blk_at 1 y1 _ (blk_at 0 y0 _ (h)))))
  rw [this]; simp
theorem blk_store5 {w : World} {k C : Nat} {o : Obj} (h : w.heap[k]? = some o) (hne : k ≠ C) (y0 y1 y2 y3 y4 : Value) : (((((w.setCell ⟨C, 0, none⟩ y0).setCell ⟨C, 1, none⟩ y1).setCell ⟨C, 2, none⟩ y2).setCell ⟨C, 3, none⟩ y3).setCell ⟨C, 4, none⟩ y4).heap[k]? = some o :=
  blk_far (blk_far (blk_far (blk_far (blk_far (h) hne y0) hne y1) hne y2) hne y3) hne y4
theorem store5_bel {w0 w : World} {C : Nat} (h : Below w0.heap.size w0 w) (hC : w0.heap.size ≤ C) (y0 y1 y2 y3 y4 : Value) : Below w0.heap.size w0 (((((w.setCell ⟨C, 0, none⟩ y0).setCell ⟨C, 1, none⟩ y1).setCell ⟨C, 2, none⟩ y2).setCell ⟨C, 3, none⟩ y3).setCell ⟨C, 4, none⟩ y4) :=
  (((((h).setCell (p := ⟨C, 0, none⟩) hC y0).setCell (p := ⟨C, 1, none⟩) hC y1).setCell (p := ⟨C, 2, none⟩) hC y2).setCell (p := ⟨C, 3, none⟩) hC y3).setCell (p := ⟨C, 4, none⟩) hC y4
end Go.Proofs.Ytigndpajpofofaa
