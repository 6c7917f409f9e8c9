/- Contracts of chapter 3 with the result under a name. -/
import Derived.Test.YtigndpajpofofaaSt
namespace Go.Proofs.Ytigndpajpofofaa
open Go.ChangeShapes Go.WideShapes Go.ChangeAt Go.RowKit
set_option linter.unusedSimpArgs false
set_option linter.unusedVariables false

theorem day_bd (l t : Int) : 0 ≤ dayI l t ∧ dayI l t ≤ 360 := by
  unfold dayI; split
  · have := cnt_bd (posB l t) (-180) 360; omega
  · omega
theorem night_bd (l t : Int) : 0 ≤ nightI l t ∧ nightI l t ≤ 360 := by
  unfold nightI; split
  · have := cnt_bd (negB l t) (-180) 360; omega
  · omega
theorem edge_bd (l t : Int) : 0 ≤ edgeI l t ∧ edgeI l t ≤ 360 := by
  unfold edgeI; split
  · have := cnt_bd (nilB l t) (-180) 360; omega
  · omega
theorem upS_bd (l t h : Int) : -2000000000 ≤ upS l t h ∧ upS l t h ≤ 2000000000 := by
  have := up_bd l t h
  unfold upS; split <;> omega
theorem upS_opp (l t h : Int) : upS l (-t) (180 - h) = -upS l t h := by
  unfold upS; rw [sky_neg, up_opp]; split <;> omega
theorem upS_360 (l t h : Int) : upS l t (h + 360) = upS l t h := by unfold upS; rw [up_360]
theorem upS_down (l t h : Int) (h1 : h % 360 < 180) : upS l t (h % 360 + 1) ≤ upS l t h := by
  unfold upS
  cases hs : skyB l t
  · simp
  · have := up_down hs (h % 360) (by omega) h1
    rw [up_mod] at this
    simpa using this
theorem day_f {l t : Int} (h : skyB l t = false) : dayI l t = 0 := by unfold dayI; simp [h]
theorem night_f {l t : Int} (h : skyB l t = false) : nightI l t = 0 := by unfold nightI; simp [h]
theorem edge_f {l t : Int} (h : skyB l t = false) : edgeI l t = 0 := by unfold edgeI; simp [h]
theorem night_neg (l t : Int) : dayI l (-t) = nightI l t := day_neg l t
theorem edge_zero {l t : Int} (h : skyB l t = true) : 2 ≤ edgeI l 0 := by
  refine edge_two ?_
  have := skyB_iff.1 h
  exact skyB_iff.2 (by omega)
theorem noset_day {l t : Int} : (noSetB l t = true → dayI l t = 360 ∧ noRiseB l (-t) = true) ∧ (noSetB l t = false → ¬ dayI l t = 360) := by
  cases hs : skyB l t
  · have e : noSetB l t = false := by unfold noSetB; rw [hs]; rfl
    rw [e, day_f hs]; simp
  · have e : noSetB l t = decide (0 < upI l t 180) := by unfold noSetB; rw [hs]; rfl
    rw [e]
    constructor
    · intro h
      have h' := of_decide_eq_true h
      refine ⟨(noset_iff hs).1 h', ?_⟩
      have := up_opp l t 180
      unfold noRiseB; rw [sky_neg, hs]
      simp
      rw [show (180 - 180 : Int) = 0 by omega] at this
      omega
    · intro h g
      have := (noset_iff hs).2 g
      have := of_decide_eq_false h
      omega
theorem norise_day {l t : Int} : (noRiseB l t = true → skyB l t = true ∧ dayI l t = 0) ∧ (noRiseB l t = false → skyB l t = true → ¬ dayI l t = 0) := by
  constructor
  · intro h
    unfold noRiseB at h
    cases hs : skyB l t
    · rw [hs] at h; simp at h
    · rw [hs] at h; simp at h
      exact ⟨rfl, (norise_iff hs).1 h⟩
  · intro h hs g
    unfold noRiseB at h
    rw [hs] at h
    have := (norise_iff hs).2 g
    simp at h
    omega
theorem iSky_is {l t : Int} {b : Bool} (w : World) (h : skyB l t = b) : Calls Try.prog 54 #[.int .i64 l, .int .i64 t] w fun e w' => e = .returned (.bool b) ∧ w = w' := by subst h; exact iSky_any l t w
theorem sSky_is {l t : Int} {b : Bool} (w : World) (h : skyB l t = b) : Calls Try.prog 62 #[.int .i64 l, .int .i64 t] w fun e w' => e = .returned (.bool b) ∧ w = w' := by subst h; exact sSky_any l t w
theorem iSun_is {l t h e n u : Int} (w : World) (hs : skyB l t = true) (he : eastI t h = e) (hn : northI l t h = n) (hu : upI l t h = u) : Calls Try.prog 67 #[.int .i64 l, .int .i64 t, .int .i64 h] w fun e' w' => e' = .returned (.tuple #[.agg #[.int .i64 e, .int .i64 n, .int .i64 u], .bool true]) ∧ Below w.heap.size w w' := by subst he; subst hn; subst hu; exact iSun_t h w hs
theorem sSun_is {l t h e n u : Int} (w : World) (hs : skyB l t = true) (he : eastI t h = e) (hn : northI l t h = n) (hu : upI l t h = u) : Calls Try.prog 43 #[.int .i64 l, .int .i64 t, .int .i64 h] w fun e' w' => e' = .returned (.tuple #[.agg #[.int .i64 e, .int .i64 n, .int .i64 u], .bool true]) ∧ Below w.heap.size w w' := by subst he; subst hn; subst hu; exact sSun_t h w hs
end Go.Proofs.Ytigndpajpofofaa
