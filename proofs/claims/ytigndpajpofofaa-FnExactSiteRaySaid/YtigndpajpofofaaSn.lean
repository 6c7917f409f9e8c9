/- Contracts of chapter 3's clocks with the result under a name. -/
import Derived.Test.YtigndpajpofofaaSm
namespace Go.Proofs.Ytigndpajpofofaa
open Go.ChangeShapes Go.WideShapes Go.ChangeAt Go.RowKit
set_option linter.unusedSimpArgs false
set_option linter.unusedVariables false

theorem sm_bd {m d l z x : Int} (hc : clockB m d l z = true) (hx : smI m d l z = x) : 0 ≤ x ∧ x < 1440 := by
  unfold smI at hx; rw [if_pos hc] at hx; omega
theorem cm_bd {m d l z x : Int} (hc : clockB m d l z = true) (hx : cmI m d l z = x) : 0 ≤ x ∧ x < 1440 := by
  unfold cmI at hx; rw [if_pos hc] at hx; omega
theorem sm_back {m d l z x : Int} (hc : clockB m d l z = true) (hx : smI m d l z = x) : cmI x d l z = m := by
  have hb := sm_bd hc hx
  have h := clockB_iff.1 hc
  have hc2 : clockB x d l z = true := clockB_iff.2 (by omega)
  unfold smI at hx; rw [if_pos hc] at hx
  unfold cmI; rw [if_pos hc2]; omega
theorem cm_back {m d l z x : Int} (hc : clockB m d l z = true) (hx : cmI m d l z = x) : smI x d l z = m := by
  have hb := cm_bd hc hx
  have h := clockB_iff.1 hc
  have hc2 : clockB x d l z = true := clockB_iff.2 (by omega)
  unfold cmI at hx; rw [if_pos hc] at hx
  unfold smI; rw [if_pos hc2]; omega
theorem sm_far {m d l z x y : Int} (hc : clockB m d l z = true) (hx : smI m d l z = x) (hy : smI m d (l + 1) z = y) : y < 0 ∨ (0 ≤ y ∧ y = (x + 4) % 1440) := by
  cases hc2 : clockB m d (l + 1) z
  · left; unfold smI at hy; rw [hc2] at hy; simp at hy; omega
  · right
    unfold smI at hx hy; rw [if_pos hc] at hx; rw [if_pos hc2] at hy
    have e : aheadI d (l + 1) z = aheadI d l z + 4 := by unfold aheadI; omega
    rw [e] at hy; omega
theorem iTilt_is {d x : Int} (w : World) (h : tiltI d = x) : Calls Try.prog 68 #[.int .i64 d] w fun e w' => e = .returned (.int .i64 x) ∧ w = w' := by subst h; exact iTilt_any d w
theorem iHA_is {d x : Int} (w : World) (h : haI d = x) : Calls Try.prog 69 #[.int .i64 d] w fun e w' => e = .returned (.int .i64 x) ∧ w = w' := by subst h; exact iHA_any d w
theorem sTilt_is {d x : Int} (w : World) (h : tiltI d = x) : Calls Try.prog 44 #[.int .i64 d] w fun e w' => e = .returned (.int .i64 x) ∧ w = w' := by subst h; exact sTilt_any d w
theorem sHA_is {d x : Int} (w : World) (h : haI d = x) : Calls Try.prog 45 #[.int .i64 d] w fun e w' => e = .returned (.int .i64 x) ∧ w = w' := by subst h; exact sHA_any d w
end Go.Proofs.Ytigndpajpofofaa
