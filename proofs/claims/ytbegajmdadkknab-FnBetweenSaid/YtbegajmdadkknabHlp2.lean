/- Helpers: three and four blocks of one's own. -/
import Derived.Test.YtbegajmdadkknabHlp
namespace Go.Proofs.Ytbegajmdadkknab
open Go.ChangeShapes Go.WideShapes Go.ChangeAt Go.RowKit

theorem ownb3 {w w1 : World} {o o' o'' : Obj} (hb : Below (((w.alloc o).alloc o').alloc o'').heap.size (((w.alloc o).alloc o').alloc o'') w1) :
    w1.heap[w.heap.size]? = some o ∧ w1.heap[w.heap.size + 1]? = some o' ∧ w1.heap[w.heap.size + 1 + 1]? = some o'' ∧ Below w.heap.size w w1 :=
  ⟨blk_next (blk_old (blk_old (blk_new w o) o') o'') hb, blk_next (blk_old (new2 w o o') o'') hb, blk_next (new3 w o o' o'') hb, bel_next (bel3 w o o' o'') hb⟩
theorem own4 {w w1 : World} {o o' o'' p : Obj} (hb : Below ((((w.alloc o).alloc o').alloc o'').alloc p).heap.size ((((w.alloc o).alloc o').alloc o'').alloc p) w1) :
    w1.heap[w.heap.size]? = some o ∧ w1.heap[w.heap.size + 1]? = some o' ∧ w1.heap[w.heap.size + 1 + 1]? = some o'' ∧ Below w.heap.size w w1 :=
  ⟨blk_next (blk_old (blk_old (blk_old (blk_new w o) o') o'') p) hb, blk_next (blk_old (blk_old (new2 w o o') o'') p) hb, blk_next (blk_old (new3 w o o' o'') p) hb, bel_next ((bel3 w o o' o'').alloc (by simp; omega) p) hb⟩
theorem new4 (w : World) (o o' o'' p : Obj) : ((((w.alloc o).alloc o').alloc o'').alloc p).heap[w.heap.size + 1 + 1 + 1]? = some p := by
  have := blk_new (((w.alloc o).alloc o').alloc o'') p; simpa using this
end Go.Proofs.Ytbegajmdadkknab
