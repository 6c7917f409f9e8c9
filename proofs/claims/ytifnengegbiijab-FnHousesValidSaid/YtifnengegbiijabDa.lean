/- Places, blocks and directions that are drawn. -/
import Derived.Test.YtifnengegbiijabRdU
import Derived.Test.YtifnengegbiijabVh
import Derived.Test.YtifnengegbiijabVm
namespace Go.Proofs.Ytifnengegbiijab
open Go Go.ChangeShapes Go.WideShapes Go.ChangeAt Go.RowKit
set_option linter.unusedSimpArgs false
set_option linter.unusedVariables false

theorem blk2_at0 {w : World} {C : Nat} {x0 x1 v : Value} {t : TypeId} (h : w.heap[C]? = some (.cells #[x0, x1] t (0, 0))) : (w.setCell ⟨C, 0, none⟩ v).heap[C]? = some (.cells #[v, x1] t (0, 0)) := by
  have hlt := blk_lt h
  have h' : w.heap[C] = .cells #[x0, x1] t (0, 0) := by simpa [Array.getElem?_eq_getElem hlt] using h
  show (w.heap.modify C _)[C]? = _
  rw [Array.getElem?_eq_getElem (by simpa using hlt), Array.getElem_modify_self, h']
  rfl
theorem blk2_at1 {w : World} {C : Nat} {x0 x1 v : Value} {t : TypeId} (h : w.heap[C]? = some (.cells #[x0, x1] t (0, 0))) : (w.setCell ⟨C, 1, none⟩ v).heap[C]? = some (.cells #[x0, v] t (0, 0)) := by
  have hlt := blk_lt h
  have h' : w.heap[C] = .cells #[x0, x1] t (0, 0) := by simpa [Array.getElem?_eq_getElem hlt] using h
  show (w.heap.modify C _)[C]? = _
  rw [Array.getElem?_eq_getElem (by simpa using hlt), Array.getElem_modify_self, h']
  rfl
theorem blk3_at0 {w : World} {C : Nat} {x0 x1 x2 v : Value} {t : TypeId} (h : w.heap[C]? = some (.cells #[x0, x1, x2] t (0, 0))) : (w.setCell ⟨C, 0, none⟩ v).heap[C]? = some (.cells #[v, x1, x2] t (0, 0)) := by
  have hlt := blk_lt h
  have h' : w.heap[C] = .cells #[x0, x1, x2] t (0, 0) := by simpa [Array.getElem?_eq_getElem hlt] using h
  show (w.heap.modify C _)[C]? = _
  rw [Array.getElem?_eq_getElem (by simpa using hlt), Array.getElem_modify_self, h']
  rfl
theorem blk3_at1 {w : World} {C : Nat} {x0 x1 x2 v : Value} {t : TypeId} (h : w.heap[C]? = some (.cells #[x0, x1, x2] t (0, 0))) : (w.setCell ⟨C, 1, none⟩ v).heap[C]? = some (.cells #[x0, v, x2] t (0, 0)) := by
  have hlt := blk_lt h
  have h' : w.heap[C] = .cells #[x0, x1, x2] t (0, 0) := by simpa [Array.getElem?_eq_getElem hlt] using h
  show (w.heap.modify C _)[C]? = _
  rw [Array.getElem?_eq_getElem (by simpa using hlt), Array.getElem_modify_self, h']
  rfl
theorem blk3_at2 {w : World} {C : Nat} {x0 x1 x2 v : Value} {t : TypeId} (h : w.heap[C]? = some (.cells #[x0, x1, x2] t (0, 0))) : (w.setCell ⟨C, 2, none⟩ v).heap[C]? = some (.cells #[x0, x1, v] t (0, 0)) := by
  have hlt := blk_lt h
  have h' : w.heap[C] = .cells #[x0, x1, x2] t (0, 0) := by simpa [Array.getElem?_eq_getElem hlt] using h
  show (w.heap.modify C _)[C]? = _
  rw [Array.getElem?_eq_getElem (by simpa using hlt), Array.getElem_modify_self, h']
  rfl
theorem blk5_at0 {w : World} {C : Nat} {x0 x1 x2 x3 x4 v : Value} {t : TypeId} (h : w.heap[C]? = some (.cells #[x0, x1, x2, x3, x4] t (0, 0))) : (w.setCell ⟨C, 0, none⟩ v).heap[C]? = some (.cells #[v, x1, x2, x3, x4] t (0, 0)) := by
  have hlt := blk_lt h
  have h' : w.heap[C] = .cells #[x0, x1, x2, x3, x4] t (0, 0) := by simpa [Array.getElem?_eq_getElem hlt] using h
  show (w.heap.modify C _)[C]? = _
  rw [Array.getElem?_eq_getElem (by simpa using hlt), Array.getElem_modify_self, h']
  rfl
theorem blk5_at1 {w : World} {C : Nat} {x0 x1 x2 x3 x4 v : Value} {t : TypeId} (h : w.heap[C]? = some (.cells #[x0, x1, x2, x3, x4] t (0, 0))) : (w.setCell ⟨C, 1, none⟩ v).heap[C]? = some (.cells #[x0, v, x2, x3, x4] t (0, 0)) := by
  have hlt := blk_lt h
  have h' : w.heap[C] = .cells #[x0, x1, x2, x3, x4] t (0, 0) := by simpa [Array.getElem?_eq_getElem hlt] using h
  show (w.heap.modify C _)[C]? = _
  rw [Array.getElem?_eq_getElem (by simpa using hlt), Array.getElem_modify_self, h']
  rfl
theorem blk5_at2 {w : World} {C : Nat} {x0 x1 x2 x3 x4 v : Value} {t : TypeId} (h : w.heap[C]? = some (.cells #[x0, x1, x2, x3, x4] t (0, 0))) : (w.setCell ⟨C, 2, none⟩ v).heap[C]? = some (.cells #[x0, x1, v, x3, x4] t (0, 0)) := by
  have hlt := blk_lt h
  have h' : w.heap[C] = .cells #[x0, x1, x2, x3, x4] t (0, 0) := by simpa [Array.getElem?_eq_getElem hlt] using h
  show (w.heap.modify C _)[C]? = _
  rw [Array.getElem?_eq_getElem (by simpa using hlt), Array.getElem_modify_self, h']
  rfl
theorem blk5_at3 {w : World} {C : Nat} {x0 x1 x2 x3 x4 v : Value} {t : TypeId} (h : w.heap[C]? = some (.cells #[x0, x1, x2, x3, x4] t (0, 0))) : (w.setCell ⟨C, 3, none⟩ v).heap[C]? = some (.cells #[x0, x1, x2, v, x4] t (0, 0)) := by
  have hlt := blk_lt h
  have h' : w.heap[C] = .cells #[x0, x1, x2, x3, x4] t (0, 0) := by simpa [Array.getElem?_eq_getElem hlt] using h
  show (w.heap.modify C _)[C]? = _
  rw [Array.getElem?_eq_getElem (by simpa using hlt), Array.getElem_modify_self, h']
  rfl
theorem blk5_at4 {w : World} {C : Nat} {x0 x1 x2 x3 x4 v : Value} {t : TypeId} (h : w.heap[C]? = some (.cells #[x0, x1, x2, x3, x4] t (0, 0))) : (w.setCell ⟨C, 4, none⟩ v).heap[C]? = some (.cells #[x0, x1, x2, x3, v] t (0, 0)) := by
  have hlt := blk_lt h
  have h' : w.heap[C] = .cells #[x0, x1, x2, x3, x4] t (0, 0) := by simpa [Array.getElem?_eq_getElem hlt] using h
  show (w.heap.modify C _)[C]? = _
  rw [Array.getElem?_eq_getElem (by simpa using hlt), Array.getElem_modify_self, h']
  rfl
def PlaceIs (B : Nat) (u : Int) (w : World) (e : Ending) (w' : World) : Prop :=
  ∃ a b : Int, e = .returned (.agg #[.int .i64 a, .int .i64 b]) ∧ (-100 ≤ a ∧ a ≤ 100) ∧ (-100 ≤ b ∧ b ≤ 100) ∧ RdU B u w' ∧ Ext B w w'
def BlockIs (B : Nat) (u : Int) (w : World) (e : Ending) (w' : World) : Prop :=
  ∃ a b c d f : Int, e = .returned (.agg #[.int .i64 a, .int .i64 b, .int .i64 c, .int .i64 d, .int .i64 f]) ∧ (-100 ≤ a ∧ a ≤ 100) ∧ (-100 ≤ b ∧ b ≤ 100) ∧ (-100 ≤ c ∧ c ≤ 100) ∧ (-100 ≤ d ∧ d ≤ 100) ∧ (-100 ≤ f ∧ f ≤ 100) ∧ RdU B u w' ∧ Ext B w w'
def RayIs (B : Nat) (u : Int) (w : World) (e : Ending) (w' : World) : Prop :=
  ∃ a b c : Int, e = .returned (.agg #[.int .i64 a, .int .i64 b, .int .i64 c]) ∧ (-100 ≤ a ∧ a ≤ 100) ∧ (-100 ≤ b ∧ b ≤ 100) ∧ (-100 ≤ c ∧ c ≤ 100) ∧ RdU B u w' ∧ Ext B w w'
theorem blk_drw {w : World} {k : Nat} {o : Obj} (h : w.heap[k]? = some o) : w.drew.heap[k]? = some o := h
theorem RdU.drw {B : Nat} {u : Int} {w : World} (h : RdU B u w) : RdU B u w.drew := h
theorem Ext.drw {B : Nat} {a w : World} (h : Ext B a w) : Ext B a w.drew := h.drewN 1
end Go.Proofs.Ytifnengegbiijab
