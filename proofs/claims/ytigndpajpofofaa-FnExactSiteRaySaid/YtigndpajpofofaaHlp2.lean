/- Helpers: three and four blocks of one's own. -/
import Derived.Test.YtigndpajpofofaaHlp
namespace Go.Proofs.Ytigndpajpofofaa
open Go.ChangeShapes Go.WideShapes Go.ChangeAt Go.RowKit

theorem ownb3 {w w1 : World} {o o' o'' : Obj} (hb : Below (((w.alloc o).alloc o').alloc o'').heap.size (((w.alloc o).alloc o').alloc o'') w1) :
    w1.heap[w.heap.size]? = some o ∧ w1.heap[w.heap.size + 1]? = some o' ∧ w1.heap[w.heap.size + 1 + 1]? = some o'' ∧ Below w.heap.size w w1 :=
  ⟨blk_next (blk_old (blk_old (blk_new w o) o') o'') hb, blk_next (blk_old (new2 w o o') o'') hb, blk_next (new3 w o o' o'') hb, bel_next (bel3 w o o' o'') hb⟩
theorem own4 {w w1 : World} {o o' o'' p : Obj} (hb : Below ((((w.alloc o).alloc o').alloc o'').alloc p).heap.size ((((w.alloc o).alloc o').alloc o'').alloc p) w1) :
    w1.heap[w.heap.size]? = some o ∧ w1.heap[w.heap.size + 1]? = some o' ∧ w1.heap[w.heap.size + 1 + 1]? = some o'' ∧ Below w.heap.size w w1 :=
  ⟨blk_next (blk_old (blk_old (blk_old (blk_new w o) o') o'') p) hb, blk_next (blk_old (blk_old (new2 w o o') o'') p) hb, blk_next (blk_old (new3 w o o' o'') p) hb, bel_next ((bel3 w o o' o'').alloc (by simp; omega) p) hb⟩
theorem new4 (w : World) (o o' o'' p : Obj) : ((((w.alloc o).alloc o').alloc o'').alloc p).heap[w.heap.size + 1 + 1 + 1]? = some p := by
  have := blk_new (((w.alloc o).alloc o').alloc o'') p; simpa using this
theorem store3_bel {w0 w : World} {C : Nat} (h : Below w0.heap.size w0 w) (hC : w0.heap.size ≤ C) (a b c : Value) : Below w0.heap.size w0 (((w.setCell ⟨C, 0, none⟩ a).setCell ⟨C, 1, none⟩ b).setCell ⟨C, 2, none⟩ c) :=
  (store2_bel h hC a b).setCell (p := ⟨C, 2, none⟩) hC c
theorem blk3_put {w : World} {C : Nat} {x y z a b c : Value} {t : TypeId} (h : w.heap[C]? = some (.cells #[x, y, z] t (0, 0))) : (((w.setCell ⟨C, 0, none⟩ a).setCell ⟨C, 1, none⟩ b).setCell ⟨C, 2, none⟩ c).heap[C]? = some (.cells #[a, b, c] t (0, 0)) := by
  have at_ : ∀ (w : World) (i : Nat) (v : Value) (cs : Array Value), w.heap[C]? = some (.cells cs t (0, 0)) → (w.setCell ⟨C, i, none⟩ v).heap[C]? = some (.cells (cs.setIfInBounds i v) t (0, 0)) := by
    intro w i v cs h; simp [World.setCell, Array.getElem?_modify, h]
  have := at_ _ 2 c _ (at_ _ 1 b _ (at_ _ 0 a _ h))
  rw [this]; simp
end Go.Proofs.Ytigndpajpofofaa
