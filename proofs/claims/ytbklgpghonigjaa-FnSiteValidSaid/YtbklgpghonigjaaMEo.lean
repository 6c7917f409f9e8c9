/- Eo: texts joined. -/
import Derived.Test.YtbklgpghonigjaaMQK
namespace Go.Proofs.Ytbklgpghonigjaa
set_option linter.unusedVariables false
theorem siB_bare {la dy mi e1 n1 fe fn fu ho ha ne lo hi st : Int} {xs : List VBlock} (h : siB la dy mi e1 n1 fe fn fu ho ha ne lo hi st xs = true) : siB la dy mi e1 n1 fe fn fu ho 0 ne lo hi st [] = true := by
  rw [siB_iff] at h ⊢
  obtain ⟨h1, h2, h3, h4, h5, h6, h7, h8, h9, h10, h11, h12⟩ := h
  exact ⟨h1, h2, h3, h4, by decide, h6, h7, h8, ⟨Int.le_refl _, h8.1⟩, h10, h11, h12⟩
theorem siB_full (la dy mi e1 n1 fe fn fu ho ha ne lo hi st : Int) (xs : List VBlock) : siB la dy mi e1 n1 fe fn fu ho (ho + 1) ne lo hi st xs = false := by
  cases h : siB la dy mi e1 n1 fe fn fu ho (ho + 1) ne lo hi st xs
  · rfl
  · rw [siB_iff] at h
    obtain ⟨h1, h2, h3, h4, h5, h6, h7, h8, h9, h10, h11, h12⟩ := h
    omega
end Go.Proofs.Ytbklgpghonigjaa
