/- Helpers: blocks that are stored into, regions that draw their order. -/
import Derived.Test.YtigndpajpofofaaHelp
import Derived.Deep.DeepCutAuto
import Derived.Deep.CutBlock
namespace Go.Proofs.Ytigndpajpofofaa
open Go.ChangeShapes Go.WideShapes Go.ChangeAt Go.RowKit
set_option linter.unusedVariables false

theorem new2 (w : World) (o o' : Obj) : ((w.alloc o).alloc o').heap[w.heap.size + 1]? = some o' := by
  have := blk_new (w.alloc o) o'; simpa using this
theorem new3 (w : World) (o o' o'' : Obj) : (((w.alloc o).alloc o').alloc o'').heap[w.heap.size + 1 + 1]? = some o'' := by
  have := blk_new ((w.alloc o).alloc o') o''; simpa using this
theorem bel2 (w : World) (o o' : Obj) : Below w.heap.size w ((w.alloc o).alloc o') := (bel1 w o).alloc (by simp) o'
theorem bel3 (w : World) (o o' o'' : Obj) : Below w.heap.size w (((w.alloc o).alloc o').alloc o'') := (bel2 w o o').alloc (by simp; omega) o''
theorem blk_far {w : World} {k C i : Nat} {o : Obj} (h : w.heap[k]? = some o) (hne : k ≠ C) (v : Value) : (w.setCell ⟨C, i, none⟩ v).heap[k]? = some o := by
  rw [Below.heap_setCell _ _ _ _ hne]; exact h
theorem blk_store2 {w : World} {k C : Nat} {o : Obj} (h : w.heap[k]? = some o) (hne : k ≠ C) (a b : Value) : ((w.setCell ⟨C, 0, none⟩ a).setCell ⟨C, 1, none⟩ b).heap[k]? = some o :=
  blk_far (blk_far h hne a) hne b
theorem blk_store3 {w : World} {k C : Nat} {o : Obj} (h : w.heap[k]? = some o) (hne : k ≠ C) (a b c : Value) : (((w.setCell ⟨C, 0, none⟩ a).setCell ⟨C, 1, none⟩ b).setCell ⟨C, 2, none⟩ c).heap[k]? = some o :=
  blk_far (blk_store2 h hne a b) hne c
theorem store2_bel {w0 w : World} {C : Nat} (h : Below w0.heap.size w0 w) (hC : w0.heap.size ≤ C) (a b : Value) : Below w0.heap.size w0 ((w.setCell ⟨C, 0, none⟩ a).setCell ⟨C, 1, none⟩ b) :=
  (h.setCell (p := ⟨C, 0, none⟩) hC a).setCell (p := ⟨C, 1, none⟩) hC b
theorem blk2_set0 {w : World} {C : Nat} {x y a : Value} {t : TypeId} (h : w.heap[C]? = some (.cells #[x, y] t (0, 0))) : (w.setCell ⟨C, 0, none⟩ a).heap[C]? = some (.cells #[a, y] t (0, 0)) := by
  have hlt := blk_lt h
  have h' : w.heap[C] = .cells #[x, y] t (0, 0) := by simpa [Array.getElem?_eq_getElem hlt] using h
  show (w.heap.modify C _)[C]? = _
  rw [Array.getElem?_eq_getElem (by simpa using hlt), Array.getElem_modify_self, h']
  rfl
theorem blk2_set1 {w : World} {C : Nat} {x y b : Value} {t : TypeId} (h : w.heap[C]? = some (.cells #[x, y] t (0, 0))) : (w.setCell ⟨C, 1, none⟩ b).heap[C]? = some (.cells #[x, b] t (0, 0)) := by
  have hlt := blk_lt h
  have h' : w.heap[C] = .cells #[x, y] t (0, 0) := by simpa [Array.getElem?_eq_getElem hlt] using h
  show (w.heap.modify C _)[C]? = _
  rw [Array.getElem?_eq_getElem (by simpa using hlt), Array.getElem_modify_self, h']
  rfl
theorem blk2_set {w : World} {C : Nat} {x y a b : Value} {t : TypeId} (h : w.heap[C]? = some (.cells #[x, y] t (0, 0))) : ((w.setCell ⟨C, 0, none⟩ a).setCell ⟨C, 1, none⟩ b).heap[C]? = some (.cells #[a, b] t (0, 0)) :=
  blk2_set1 (blk2_set0 h)
/-- The cells of two blocks of two, behind a callee that makes memory. -/
theorem keep22 {w w1 w2 : World} {a b c d : Value} (h0 : w1.cell? ⟨w.heap.size, 0, none⟩ = some a) (h1 : w1.cell? ⟨w.heap.size, 1, none⟩ = some b) (h2 : w1.cell? ⟨w.heap.size + 1, 0, none⟩ = some c) (h3 : w1.cell? ⟨w.heap.size + 1, 1, none⟩ = some d)
    (hs : w.heap.size + 1 < w1.heap.size) (hB : Below w.heap.size w w1) (hw : Below w1.heap.size w1 w2) :
    w2.cell? ⟨w.heap.size, 0, none⟩ = some a ∧ w2.cell? ⟨w.heap.size, 1, none⟩ = some b ∧ w2.cell? ⟨w.heap.size + 1, 0, none⟩ = some c ∧ w2.cell? ⟨w.heap.size + 1, 1, none⟩ = some d ∧ w.heap.size + 1 < w2.heap.size ∧ Below w.heap.size w w2 :=
  ⟨by rw [hw.cell (by show w.heap.size < _; omega)]; assumption, by rw [hw.cell (by show w.heap.size < _; omega)]; assumption, by rw [hw.cell (by assumption)]; assumption, by rw [hw.cell (by assumption)]; assumption, Nat.lt_of_lt_of_le hs hw.size, hB.trans (hw.mono (by omega))⟩
theorem keep2 {w w1 w2 : World} {a b : Value} (h0 : w1.cell? ⟨w.heap.size, 0, none⟩ = some a) (h1 : w1.cell? ⟨w.heap.size, 1, none⟩ = some b)
    (hs : w.heap.size < w1.heap.size) (hB : Below w.heap.size w w1) (hw : Below w1.heap.size w1 w2) :
    w2.cell? ⟨w.heap.size, 0, none⟩ = some a ∧ w2.cell? ⟨w.heap.size, 1, none⟩ = some b ∧ w.heap.size < w2.heap.size ∧ Below w.heap.size w w2 :=
  ⟨by rw [hw.cell (by assumption)]; assumption, by rw [hw.cell (by assumption)]; assumption, Nat.lt_of_lt_of_le hs hw.size, hB.trans (hw.mono (by omega))⟩
end Go.Proofs.Ytigndpajpofofaa
