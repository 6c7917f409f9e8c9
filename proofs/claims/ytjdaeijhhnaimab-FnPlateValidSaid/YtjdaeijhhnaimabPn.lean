/- The tail of a plate is a plate; with its first mark behind it it is none. -/
import Derived.Test.YtjdaeijhhnaimabPi
namespace Go.Proofs.Ytjdaeijhhnaimab
open Go Go.ChangeShapes Go.WideShapes Go.ChangeAt Go.RowKit
set_option linter.unusedSimpArgs false
set_option linter.unusedVariables false

theorem pl_nil : plB [] = true := plB_iff.2 ⟨fun i hi => by simp at hi, by simp⟩
theorem pl_tail {xs : List VMark} (h : plB xs = true) : plB (xs.drop 1) = true := by
  obtain ⟨hg, hl⟩ := plB_iff.1 h
  refine plB_iff.2 ⟨fun i hi => ?_, by rw [List.length_drop]; omega⟩
  have hi2 : i + 1 < xs.length := by rw [List.length_drop] at hi; omega
  have e : ∀ j, mkAt (xs.drop 1) j = mkAt xs (j + 1) := fun j => by simp [mkAt, Nat.add_comm]
  rw [e]
  obtain ⟨g1, g2, g3, g4⟩ := hg (i + 1) hi2
  refine ⟨g1, g2, fun h0 => ?_, fun j hj => ?_⟩
  · rw [e, Nat.sub_add_cancel h0]; simpa using g3 (by omega)
  · rw [e]; exact g4 (j + 1) (by omega)
theorem pl_dup {xs : List VMark} (h : plB xs = true) (h0 : 0 < xs.length) : plB (xs ++ [xs[0]]) = false := by
  cases e : plB (xs ++ [xs[0]])
  · rfl
  · obtain ⟨hg, _⟩ := plB_iff.1 e
    have := (hg xs.length (by simp)).2.2.2 0 h0
    simp [mkAt, h0] at this
theorem tailMark {w : World} {base g cap : Nat} {T : TypeId} {xs : List VMark} (h : SOwn encMark w base T (some ⟨g, 0, none⟩) cap xs) : SRow encMark w (some ⟨g, 3, none⟩) (xs.drop 1) := by
  refine .inr ⟨g, 3, rfl, fun i hi j v hv => ?_⟩
  have hi2 : i + 1 < xs.length := by rw [List.length_drop] at hi; omega
  have := h.cell (i + 1) hi2 j v (by simpa [Nat.add_comm] using hv)
  rw [show 3 + (i * encMark.k + j) = (i + 1) * encMark.k + j by simp only [encMark]; omega]
  exact this
theorem newsMark {w : World} {g : Nat} {T : TypeId} {x : VMark} (h : w.heap[g]? = some (.cells (encMark.enc x).toArray T)) : ∀ j u, (encMark.enc x)[j]? = some u → w.cell? ((⟨g, 0, none⟩ : Addr).add j) = some u := by
  exact World.news_of_block (cs := (encMark.enc x).toArray) h
theorem blkGrown {w w' : World} {row : Option Nat} {k : Nat} {o : Obj} (h : w.heap[k]? = some o) (hg : w.grownBy w' row) (hne : row ≠ some k) : w'.heap[k]? = some o := by
  rw [hg.block k (blk_lt h) (fun e => hne e.symm)]; exact h
theorem small_snoc {xs : List VMark} (h : ∀ v ∈ xs, v.2.2.size ≤ maxLen) (h0 : 0 < xs.length) : ∀ v ∈ xs ++ [xs[0]], v.2.2.size ≤ maxLen := by
  intro v hv
  rw [List.mem_append, List.mem_singleton] at hv
  rcases hv with hv | rfl
  · exact h v hv
  · exact h _ (List.getElem_mem _)
end Go.Proofs.Ytjdaeijhhnaimab
