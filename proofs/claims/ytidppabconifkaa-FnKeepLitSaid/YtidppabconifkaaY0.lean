/- KeepLit is at least what the cell has. -/
import Derived.Test.YtidppabconifkaaYu
import Derived.Test.YtidppabconifkaaYz
import Derived.Test.YtidppabconifkaaYi
namespace Go.Proofs.Ytidppabconifkaa
set_option linter.unusedVariables false
set_option linter.unusedSimpArgs false
theorem kp_own {d c e f : Int} {xs : List Int} (hv : okB d xs e f = true) (hc : ceB xs c = true) : tlI xs c ≤ kpG d xs e f c (faN d c (opI e)) := by
  have hcv := (okB_iff.1 hv).1
  have hr := tlI_rng hcv c
  have hcr := ce_rng hc
  have hlt : c.toNat < xs.length := by omega
  have hself : xs.set c.toNat (tlI xs c) = xs := by
    unfold tlI
    have : xs.getD c.toNat 0 = xs[c.toNat] := by simp [hlt]
    rw [this]; exact List.set_getElem_self hlt
  have h := gd_kp hv hc hr.1 hr.2
  have hg : gdB d xs e f c (tlI xs c) (liL d xs e f) = true := by
    unfold gdB; rw [List.all_eq_true, hself, li_yes hv]
    intro k hk
    have := (ltL_mem.1 hk).2.2
    rw [this]; simp
  rw [hg] at h
  exact of_decide_eq_true h.symm
end Go.Proofs.Ytidppabconifkaa
