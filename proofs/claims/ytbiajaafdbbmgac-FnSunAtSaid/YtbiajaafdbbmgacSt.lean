/- Contracts of chapter 3: days, nights, setting, rising. -/
import Derived.Test.YtbiajaafdbbmgacSc
namespace Go.Proofs.Ytbiajaafdbbmgac
open Go.ChangeShapes Go.WideShapes Go.ChangeAt Go.RowKit
set_option linter.unusedSimpArgs false
set_option linter.unusedVariables false

def noSetB (l t : Int) : Bool := skyB l t && decide (0 < upI l t 180)
def noRiseB (l t : Int) : Bool := skyB l t && decide (upI l t 0 ≤ 0)
theorem iDayLong_any (l t : Int) (w : World) : Calls Try.prog 24 #[.int .i64 l, .int .i64 t] w fun e w' => e = .returned (.int .i64 (dayI l t)) ∧ Below w.heap.size w w' := by
  cases hs : skyB l t
  · have E := Lib.hid (show dayI l t = 0 by unfold dayI; simp [hs])
    go_enter Try.func24, Try.ntmps24
    go_wp2_with fail
    refine (iPos_f _ hs).mono ?_; rintro e w1 ⟨rfl, hw⟩
    go_wp2
    go_ret
    exact ⟨ret_int E.out.symm, hw⟩
  · have E := Lib.hid (show dayI l t = cnt (posB l t) (-180) 360 by unfold dayI; rw [if_pos hs])
    go_enter Try.func24, Try.ntmps24
    go_wp2_with fail
    refine (iPos_t _ hs).mono ?_; rintro e w1 ⟨rfl, hw⟩
    go_wp2
    go_ret
    exact ⟨ret_int E.out.symm, hw⟩
theorem iNightLong_any (l t : Int) (w : World) : Calls Try.prog 28 #[.int .i64 l, .int .i64 t] w fun e w' => e = .returned (.int .i64 (nightI l t)) ∧ Below w.heap.size w w' := by
  cases hs : skyB l t
  · have E := Lib.hid (show nightI l t = 0 by unfold nightI; simp [hs])
    go_enter Try.func28, Try.ntmps28
    go_wp2_with fail
    refine (iNeg_f _ hs).mono ?_; rintro e w1 ⟨rfl, hw⟩
    go_wp2
    go_ret
    exact ⟨ret_int E.out.symm, hw⟩
  · have E := Lib.hid (show nightI l t = cnt (negB l t) (-180) 360 by unfold nightI; rw [if_pos hs])
    go_enter Try.func28, Try.ntmps28
    go_wp2_with fail
    refine (iNeg_t _ hs).mono ?_; rintro e w1 ⟨rfl, hw⟩
    go_wp2
    go_ret
    exact ⟨ret_int E.out.symm, hw⟩
theorem iEdgeLong_any (l t : Int) (w : World) : Calls Try.prog 26 #[.int .i64 l, .int .i64 t] w fun e w' => e = .returned (.int .i64 (edgeI l t)) ∧ Below w.heap.size w w' := by
  cases hs : skyB l t
  · have E := Lib.hid (show edgeI l t = 0 by unfold edgeI; simp [hs])
    go_enter Try.func26, Try.ntmps26
    go_wp2_with fail
    refine (iNil_f _ hs).mono ?_; rintro e w1 ⟨rfl, hw⟩
    go_wp2
    go_ret
    exact ⟨ret_int E.out.symm, hw⟩
  · have E := Lib.hid (show edgeI l t = cnt (nilB l t) (-180) 360 by unfold edgeI; rw [if_pos hs])
    go_enter Try.func26, Try.ntmps26
    go_wp2_with fail
    refine (iNil_t _ hs).mono ?_; rintro e w1 ⟨rfl, hw⟩
    go_wp2
    go_ret
    exact ⟨ret_int E.out.symm, hw⟩
theorem sDayLong_any (l t : Int) (w : World) : Calls Try.prog 25 #[.int .i64 l, .int .i64 t] w fun e w' => e = .returned (.int .i64 (dayI l t)) ∧ Below w.heap.size w w' := by
  cases hs : skyB l t
  · have E := Lib.hid (show dayI l t = 0 by unfold dayI; simp [hs])
    go_enter Try.func25, Try.ntmps25
    go_wp2_with fail
    refine (sPos_f _ hs).mono ?_; rintro e w1 ⟨rfl, hw⟩
    go_wp2
    go_ret
    exact ⟨ret_int E.out.symm, hw⟩
  · have E := Lib.hid (show dayI l t = cnt (posB l t) (-180) 360 by unfold dayI; rw [if_pos hs])
    go_enter Try.func25, Try.ntmps25
    go_wp2_with fail
    refine (sPos_t _ hs).mono ?_; rintro e w1 ⟨rfl, hw⟩
    go_wp2
    go_ret
    exact ⟨ret_int E.out.symm, hw⟩
theorem sNightLong_any (l t : Int) (w : World) : Calls Try.prog 29 #[.int .i64 l, .int .i64 t] w fun e w' => e = .returned (.int .i64 (nightI l t)) ∧ Below w.heap.size w w' := by
  cases hs : skyB l t
  · have E := Lib.hid (show nightI l t = 0 by unfold nightI; simp [hs])
    go_enter Try.func29, Try.ntmps29
    go_wp2_with fail
    refine (sNeg_f _ hs).mono ?_; rintro e w1 ⟨rfl, hw⟩
    go_wp2
    go_ret
    exact ⟨ret_int E.out.symm, hw⟩
  · have E := Lib.hid (show nightI l t = cnt (negB l t) (-180) 360 by unfold nightI; rw [if_pos hs])
    go_enter Try.func29, Try.ntmps29
    go_wp2_with fail
    refine (sNeg_t _ hs).mono ?_; rintro e w1 ⟨rfl, hw⟩
    go_wp2
    go_ret
    exact ⟨ret_int E.out.symm, hw⟩
theorem sEdgeLong_any (l t : Int) (w : World) : Calls Try.prog 31 #[.int .i64 l, .int .i64 t] w fun e w' => e = .returned (.int .i64 (edgeI l t)) ∧ Below w.heap.size w w' := by
  cases hs : skyB l t
  · have E := Lib.hid (show edgeI l t = 0 by unfold edgeI; simp [hs])
    go_enter Try.func31, Try.ntmps31
    go_wp2_with fail
    refine (sNil_f _ hs).mono ?_; rintro e w1 ⟨rfl, hw⟩
    go_wp2
    go_ret
    exact ⟨ret_int E.out.symm, hw⟩
  · have E := Lib.hid (show edgeI l t = cnt (nilB l t) (-180) 360 by unfold edgeI; rw [if_pos hs])
    go_enter Try.func31, Try.ntmps31
    go_wp2_with fail
    refine (sNil_t _ hs).mono ?_; rintro e w1 ⟨rfl, hw⟩
    go_wp2
    go_ret
    exact ⟨ret_int E.out.symm, hw⟩
theorem iNoSet_any (l t : Int) (w : World) : Calls Try.prog 36 #[.int .i64 l, .int .i64 t] w fun e w' => e = .returned (.bool (noSetB l t)) ∧ Below w.heap.size w w' := by
  cases hs : skyB l t
  · have E := Lib.hid (show noSetB l t = false by unfold noSetB; simp [hs])
    go_enter Try.func36, Try.ntmps36
    go_wp2_with fail
    refine (iUp_f _ _ hs).mono ?_; rintro e w1 ⟨rfl, hw⟩
    go_wp2
    go_ret
    exact ⟨ret_bool E.out.symm, hw⟩
  · have E := Lib.hid (show noSetB l t = decide (0 < upI l t 180) by unfold noSetB; simp [hs])
    have hb := up_bd l t 180
    go_enter Try.func36, Try.ntmps36
    go_wp2_with fail
    refine (iUp_t _ _ hs).mono ?_; rintro e w1 ⟨rfl, hw⟩
    go_wp2
    go_ret
    exact ⟨ret_bool (by rw [E.out]), hw⟩
theorem sNoSet_any (l t : Int) (w : World) : Calls Try.prog 37 #[.int .i64 l, .int .i64 t] w fun e w' => e = .returned (.bool (noSetB l t)) ∧ Below w.heap.size w w' := by
  cases hs : skyB l t
  · have E := Lib.hid (show noSetB l t = false by unfold noSetB; simp [hs])
    go_enter Try.func37, Try.ntmps37
    go_wp2_with fail
    refine (sSky_any _ _ _).mono ?_; rintro e w1 ⟨rfl, rfl⟩
    rw [hs]
    go_wp2
    go_ret
    exact ⟨ret_bool E.out.symm, Below.refl _ _⟩
  · have E := Lib.hid (show noSetB l t = decide (0 < upI l t 180) by unfold noSetB; simp [hs])
    have hb := up_bd l t 180
    go_enter Try.func37, Try.ntmps37
    go_wp2_with fail
    refine (sSky_any _ _ _).mono ?_; rintro e w1 ⟨rfl, rfl⟩
    rw [hs]
    go_wp2_with fail
    refine (sUp_t _ _ hs).mono ?_; rintro e w2 ⟨rfl, hw⟩
    go_wp2
    go_ret
    exact ⟨ret_bool (by rw [E.out]), hw⟩
theorem sNoRise_any (l t : Int) (w : World) : Calls Try.prog 40 #[.int .i64 l, .int .i64 t] w fun e w' => e = .returned (.bool (noRiseB l t)) ∧ Below w.heap.size w w' := by
  cases hs : skyB l t
  · have E := Lib.hid (show noRiseB l t = false by unfold noRiseB; simp [hs])
    go_enter Try.func40, Try.ntmps40
    go_wp2_with fail
    refine (sSky_any _ _ _).mono ?_; rintro e w1 ⟨rfl, rfl⟩
    rw [hs]
    go_wp2
    go_ret
    exact ⟨ret_bool E.out.symm, Below.refl _ _⟩
  · have E := Lib.hid (show noRiseB l t = decide (upI l t 0 ≤ 0) by unfold noRiseB; simp [hs])
    have hb := up_bd l t 0
    go_enter Try.func40, Try.ntmps40
    go_wp2_with fail
    refine (sSky_any _ _ _).mono ?_; rintro e w1 ⟨rfl, rfl⟩
    rw [hs]
    go_wp2_with fail
    refine (sUp_t _ _ hs).mono ?_; rintro e w2 ⟨rfl, hw⟩
    go_wp2
    go_ret
    exact ⟨ret_bool (by rw [E.out]), hw⟩
theorem iNoRise_any (l t : Int) (w : World) : Calls Try.prog 38 #[.int .i64 l, .int .i64 t] w fun e w' => e = .returned (.bool (noRiseB l t)) ∧ Below w.heap.size w w' := by
  cases hs : skyB l t
  · have E := Lib.hid (show noRiseB l t = false by unfold noRiseB; simp [hs])
    go_enter Try.func38, Try.ntmps38
    go_wp2_with fail
    refine (iSky_any _ _ _).mono ?_; rintro e w1 ⟨rfl, rfl⟩
    rw [hs]
    go_wp2
    go_ret
    exact ⟨ret_bool E.out.symm, Below.refl _ _⟩
  · have E := Lib.hid (show noRiseB l t = decide (upI l t 0 ≤ 0) by unfold noRiseB; simp [hs])
    have hb := up_bd l t 0
    go_enter Try.func38, Try.ntmps38
    go_wp2_with fail
    refine (iSky_any _ _ _).mono ?_; rintro e w1 ⟨rfl, rfl⟩
    rw [hs]
    go_wp2_with fail
    refine (iUp_t _ _ hs).mono ?_; rintro e w2 ⟨rfl, hw⟩
    go_wp2
    go_ret
    exact ⟨ret_bool (by rw [E.out]), hw⟩
def setS (l t n : Int) : Prop := (skyB l t = false ∧ n = -1) ∨ (skyB l t = true ∧ SetIs (posB l t) n)
theorem setS.unique {l t n m : Int} (h : setS l t n) (k : setS l t m) : n = m := by
  rcases h with ⟨h0, rfl⟩ | ⟨h0, h⟩
  · rcases k with ⟨_, rfl⟩ | ⟨k0, _⟩
    · rfl
    · rw [h0] at k0; cases k0
  · rcases k with ⟨k0, rfl⟩ | ⟨_, k⟩
    · rw [h0] at k0; cases k0
    · exact h.unique k
theorem setS.bd {l t n : Int} (h : setS l t n) : -1 ≤ n ∧ n ≤ 180 := by
  rcases h with ⟨_, rfl⟩ | ⟨_, ⟨rfl, _⟩ | ⟨h0, h1, _⟩⟩ <;> omega
def SetRet (l t : Int) (w : World) (e : Ending) (w' : World) : Prop := ∃ n : Int, e = .returned (.int .i64 n) ∧ setS l t n ∧ Below w.heap.size w w'
/-- Of the hour angles above k none, and the greatest below k. -/
def Above (p : Int → Bool) (k : Int) : Prop := ∀ h, k < h → h ≤ 180 → p h = false
def SoFar (p : Int → Bool) (k n : Int) : Prop := (n = -1 ∧ ∀ h, 0 ≤ h → h < k → p h = false) ∨ (0 ≤ n ∧ n < k ∧ p n = true ∧ ∀ h, n < h → h < k → p h = false)
theorem SoFar.no {p : Int → Bool} {k n : Int} (h : SoFar p k n) (hp : p k = false) : SoFar p (k + 1) n := by
  rcases h with ⟨rfl, h⟩ | ⟨h0, h1, h2, h3⟩
  · refine .inl ⟨rfl, fun j j0 j1 => ?_⟩
    by_cases e : j = k
    · rw [e]; exact hp
    · exact h j j0 (by omega)
  · refine .inr ⟨h0, by omega, h2, fun j j0 j1 => ?_⟩
    by_cases e : j = k
    · rw [e]; exact hp
    · exact h3 j j0 (by omega)
theorem SoFar.yes {p : Int → Bool} {k : Int} (h0 : 0 ≤ k) (hp : p k = true) : SoFar p (k + 1) k := .inr ⟨h0, by omega, hp, fun j j0 j1 => by omega⟩
theorem SoFar.all {p : Int → Bool} {n : Int} (h : SoFar p 181 n) : SetIs p n := by
  rcases h with ⟨rfl, h⟩ | ⟨h0, h1, h2, h3⟩
  · exact .inl ⟨rfl, fun j j0 j1 => h j j0 (by omega)⟩
  · exact .inr ⟨h0, by omega, h2, fun j j0 j1 => h3 j j0 (by omega)⟩
theorem Above.next {p : Int → Bool} {k : Int} (h : Above p k) (hp : p k = false) : Above p (k - 1) := by
  intro j j0 j1
  by_cases e : j = k
  · rw [e]; exact hp
  · exact h j (by omega) j1
theorem iSet_any (l t : Int) (w : World) : Calls Try.prog 33 #[.int .i64 l, .int .i64 t] w (SetRet l t w) := by
  cases hs : skyB l t
  · have HR : Hid (setS l t (-1)) := .inl ⟨hs, rfl⟩
    go_enter Try.func33, Try.ntmps33
    go_wp2_with fail
    go_loopw [5] (fun h wr => ∃ k : Int, -1 ≤ k ∧ k ≤ 180 ∧ h = .int .i64 k ∧ Below w.heap.size w wr) (fun h _ => (intOf h + 1).toNat)
    case atStart => exact ⟨180, by omega, by omega, rfl, Below.refl _ _⟩
    case round =>
      obtain ⟨k, k0, k1, rfl, hB⟩ := hrel
      by_cases hlt : 0 ≤ k
      · go_wp2_with fail
        refine (iUp_f _ _ hs).mono ?_; rintro e w2 ⟨rfl, hw⟩
        go_wp2_with fail
        go_roundw
        case rel => exact ⟨k - 1, by omega, by omega, rfl, bel_next hB hw⟩
        case measure => simp [intOf]; omega
      · obtain rfl : k = -1 := by omega
        go_wp2_with fail
        go_ret
        exact ⟨-1, rfl, HR.out, hB⟩
  · have HX : Hid (∀ n, SetIs (posB l t) n → setS l t n) := fun n h => .inr ⟨hs, h⟩
    go_enter Try.func33, Try.ntmps33
    go_wp2_with fail
    go_loopw [5] (fun h wr => ∃ k : Int, -1 ≤ k ∧ k ≤ 180 ∧ h = .int .i64 k ∧ Above (posB l t) k ∧ Below w.heap.size w wr) (fun h _ => (intOf h + 1).toNat)
    case atStart => exact ⟨180, by omega, by omega, rfl, fun j j0 j1 => by omega, Below.refl _ _⟩
    case round =>
      obtain ⟨k, k0, k1, rfl, ha, hB⟩ := hrel
      have HA := Lib.hid ha
      clear ha
      by_cases hlt : 0 ≤ k
      · have hu := up_bd l t k
        generalize hU : upI l t k = u at hu
        cases hp : posB l t k
        · have HP := Lib.hid hp
          have hq : u ≤ 0 := by unfold posB at hp; rw [hU] at hp; simpa using hp
          clear hp
          go_wp2_with fail
          refine (iUp_t _ _ hs).mono ?_; rintro e w2 ⟨rfl, hw⟩
          rw [hU]
          go_wp2_with fail
          go_roundw
          case rel => exact ⟨k - 1, by omega, by omega, rfl, HA.out.next HP.out, bel_next hB hw⟩
          case measure => simp [intOf]; omega
        · have HP := Lib.hid hp
          have hq : 0 < u := by unfold posB at hp; rw [hU] at hp; simpa using hp
          clear hp
          go_wp2_with fail
          refine (iUp_t _ _ hs).mono ?_; rintro e w2 ⟨rfl, hw⟩
          rw [hU]
          go_wp2_with fail
          go_ret
          exact ⟨k, rfl, HX.out _ (.inr ⟨hlt, k1, HP.out, HA.out⟩), bel_next hB hw⟩
      · obtain rfl : k = -1 := by omega
        go_wp2_with fail
        go_ret
        exact ⟨-1, rfl, HX.out _ (.inl ⟨rfl, fun j j0 j1 => HA.out j (by omega) j1⟩), hB⟩
theorem sSet_any (l t : Int) (w : World) : Calls Try.prog 34 #[.int .i64 l, .int .i64 t] w (SetRet l t w) := by
  cases hs : skyB l t
  · have HR : Hid (setS l t (-1)) := .inl ⟨hs, rfl⟩
    go_enter Try.func34, Try.ntmps34
    go_wp2_with fail
    go_loopw [5, 6] (fun n h wr => n = .int .i64 (-1) ∧ h = .int .i64 0 ∧ w = wr) (fun _ _ _ => 0)
    case atStart => exact ⟨rfl, rfl, rfl⟩
    case round =>
      obtain ⟨rfl, rfl, rfl⟩ := hrel
      go_wp2_with fail
      refine (sSky_any _ _ _).mono ?_; rintro e w1 ⟨rfl, rfl⟩
      rw [hs]
      go_wp2
      go_ret
      exact ⟨-1, rfl, HR.out, Below.refl _ _⟩
  · have HX : Hid (∀ n, SetIs (posB l t) n → setS l t n) := fun n h => .inr ⟨hs, h⟩
    go_enter Try.func34, Try.ntmps34
    go_wp2_with fail
    go_loopw [5, 6] (fun n h wr => ∃ k m : Int, 0 ≤ k ∧ k ≤ 181 ∧ h = .int .i64 k ∧ n = .int .i64 m ∧ SoFar (posB l t) k m ∧ Below w.heap.size w wr) (fun _ h _ => (181 - intOf h).toNat)
    case atStart => exact ⟨0, -1, by omega, by omega, rfl, rfl, .inl ⟨rfl, fun j j0 j1 => by omega⟩, Below.refl _ _⟩
    case round =>
      obtain ⟨k, m, k0, k1, rfl, rfl, ha, hB⟩ := hrel
      have HA := Lib.hid ha
      clear ha
      by_cases hlt : k ≤ 180
      · have hu := up_bd l t k
        generalize hU : upI l t k = u at hu
        cases hp : posB l t k
        · have HP := Lib.hid hp
          have hq : u ≤ 0 := by unfold posB at hp; rw [hU] at hp; simpa using hp
          clear hp
          go_wp2_with fail
          refine (sSky_any _ _ _).mono ?_; rintro e w1 ⟨rfl, rfl⟩
          rw [hs]
          go_wp2_with fail
          refine (sUp_t _ _ hs).mono ?_; rintro e w2 ⟨rfl, hw⟩
          rw [hU]
          go_wp2_with fail
          go_roundw
          case rel => exact ⟨k + 1, m, by omega, by omega, rfl, rfl, HA.out.no HP.out, bel_next hB hw⟩
          case measure => simp [intOf]; omega
        · have HP := Lib.hid hp
          have hq : 0 < u := by unfold posB at hp; rw [hU] at hp; simpa using hp
          clear hp
          go_wp2_with fail
          refine (sSky_any _ _ _).mono ?_; rintro e w1 ⟨rfl, rfl⟩
          rw [hs]
          go_wp2_with fail
          refine (sUp_t _ _ hs).mono ?_; rintro e w2 ⟨rfl, hw⟩
          rw [hU]
          go_wp2_with fail
          go_roundw
          case rel => exact ⟨k + 1, k, by omega, by omega, rfl, rfl, SoFar.yes k0 HP.out, bel_next hB hw⟩
          case measure => simp [intOf]; omega
      · obtain rfl : k = 181 := by omega
        go_wp2_with fail
        go_wp2
        go_ret
        exact ⟨m, rfl, HX.out _ HA.out.all, hB⟩
end Go.Proofs.Ytbiajaafdbbmgac
