/- The model's heading, told by what it is; a block kept through a round. -/
import Derived.Test.YtbiajaafdbbmgadWhn
namespace Go.Proofs.Ytbiajaafdbbmgad
open Go.ChangeShapes Go.WideShapes Go.ChangeAt Go.RowKit
theorem sHead_n {a b n : Int} (w : World) (h : goB a b = true) (hn : HeadIs (headP a b) n) : Calls Try.prog 44 #[.agg #[.int .i64 a, .int .i64 b]] w fun e w' => e = .returned (.int .i64 n) ∧ Below w.heap.size w w' := by
  refine (sHead_t a b w h).mono ?_
  rintro e w' ⟨m, rfl, hm, hw⟩
  obtain rfl := hn.unique hm
  exact ⟨rfl, hw⟩
theorem keep2b {w w1 w2 : World} {a b : Value} {o : Obj} (h0 : w1.cell? ⟨w.heap.size, 0, none⟩ = some a) (h1 : w1.cell? ⟨w.heap.size, 1, none⟩ = some b)
    (hs : w.heap.size < w1.heap.size) (hB : Below w.heap.size w w1) (hP : w1.heap[w.heap.size]? = some o) (hw : Below w1.heap.size w1 w2) :
    w2.cell? ⟨w.heap.size, 0, none⟩ = some a ∧ w2.cell? ⟨w.heap.size, 1, none⟩ = some b ∧ w.heap.size < w2.heap.size ∧ Below w.heap.size w w2 ∧ w2.heap[w.heap.size]? = some o := by
  obtain ⟨k0, k1, k2, k3⟩ := keep2 h0 h1 hs hB hw
  exact ⟨k0, k1, k2, k3, blk_next hP hw⟩
end Go.Proofs.Ytbiajaafdbbmgad
