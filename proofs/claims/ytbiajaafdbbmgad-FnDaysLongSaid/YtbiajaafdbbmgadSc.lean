/- Contracts of chapter 3: counts of hour angles, setting. -/
import Derived.Test.YtbiajaafdbbmgadSu
namespace Go.Proofs.Ytbiajaafdbbmgad
open Go.ChangeShapes Go.WideShapes Go.ChangeAt Go.RowKit
set_option linter.unusedSimpArgs false
set_option linter.unusedVariables false

theorem ret_v {a b : Int} (h : b = a) : Value.int .i64 a = .int .i64 b := by rw [h]
def cmpI (x y : Int) : Int := if x < y then -1 else if y < x then 1 else 0
theorem isNaN_any (x : Int) (w : World) : Calls Try.prog 87 #[.int .i64 x] w fun e w' => e = .returned (.bool false) ∧ w = w' := by
  go_enter Try.func87, Try.ntmps87
  go_wp2
  go_ret
  exact ⟨ret_bool (by simp), rfl⟩
theorem cmp_any (x y : Int) (w : World) : Calls Try.prog 80 #[.int .i64 x, .int .i64 y] w fun e w' => e = .returned (.int .i64 (cmpI x y)) ∧ w = w' := by
  go_enter Try.func80, Try.ntmps80
  go_wp2_with (go_at_call 87; refine (isNaN_any _ _).mono ?_; rintro e w' ⟨rfl, rfl⟩)
  all_goals go_ret
  all_goals exact ⟨ret_int (by unfold cmpI; split <;> (try split) <;> omega), rfl⟩
theorem cmp_pos {x : Int} : cmpI x 0 = 1 ↔ 0 < x := by unfold cmpI; split <;> (try split) <;> omega
theorem cmp_neg {x : Int} : cmpI x 0 = -1 ↔ x < 0 := by unfold cmpI; split <;> (try split) <;> omega
theorem cmp_nil {x : Int} : cmpI x 0 = 0 ↔ x = 0 := by unfold cmpI; split <;> (try split) <;> omega
theorem cnt_yes {p : Int → Bool} {a : Int} {k : Nat} (h : p (a + k) = true) : cnt p a (k + 1) = cnt p a k + 1 := by simp only [cnt]; unfold hit; rw [if_pos h]
theorem cnt_no {p : Int → Bool} {a : Int} {k : Nat} (h : p (a + k) = false) : cnt p a (k + 1) = cnt p a k := by simp only [cnt]; unfold hit; rw [h]; simp
theorem iPos_f {l t : Int} (w : World) (hs : skyB l t = false) : Calls Try.prog 60 #[.int .i64 l, .int .i64 t, .int .i64 1] w fun e w' => e = .returned (.int .i64 0) ∧ Below w.heap.size w w' := by
  go_enter Try.func60, Try.ntmps60
  go_wp2_with fail
  refine (iSky_any _ _ _).mono ?_; rintro e w1 ⟨rfl, rfl⟩
  rw [hs]
  go_wp2
  go_ret
  exact ⟨rfl, Below.refl _ _⟩
set_option maxHeartbeats 4000000 in
theorem iPos_t {l t : Int} (w : World) (hs : skyB l t = true) : Calls Try.prog 60 #[.int .i64 l, .int .i64 t, .int .i64 1] w fun e w' => e = .returned (.int .i64 (cnt (posB l t) (-180) 360)) ∧ Below w.heap.size w w' := by
  go_enter Try.func60, Try.ntmps60
  go_wp2_with fail
  refine (iSky_any _ _ _).mono ?_; rintro e w1 ⟨rfl, rfl⟩
  rw [hs]
  go_wp2_with fail
  go_loopw [7, 8] (fun n h wr => ∃ k : Nat, k ≤ 360 ∧ n = .int .i64 (cnt (posB l t) (-180) k) ∧ h = .int .i64 (-180 + k) ∧ Below w.heap.size w wr) (fun _ h _ => (180 - intOf h).toNat)
  case atStart => exact ⟨0, by omega, rfl, rfl, Below.refl _ _⟩
  case round =>
    obtain ⟨k, hk, rfl, rfl, hB⟩ := hrel
    by_cases hlt : k < 360
    · have hc := cnt_bd (posB l t) (-180) k
      have hu := up_bd l t (-180 + k)
      generalize hU : upI l t (-180 + k) = u at hu
      cases hp : posB l t (-180 + k)
      · have HP := Lib.hid hp
        have hq : u ≤ 0 := by unfold posB at hp; rw [hU] at hp; simpa using hp
        clear hp
        have hcm : (cmpI u 0 == 1) = false := by rw [beq_eq_false_iff_ne]; intro e; have := cmp_pos.1 e; omega
        go_wp2_with fail
        refine (iUp_t _ _ hs).mono ?_; rintro e w2 ⟨rfl, hw⟩
        rw [hU]
        go_wp2_with fail
        refine (cmp_any _ _ _).mono ?_; rintro e w3 ⟨rfl, rfl⟩
        go_wp2_with fail
        all_goals go_roundw
        case rel => exact ⟨k + 1, by omega, ret_v (cnt_no HP.out), ret_v (by omega), bel_next hB hw⟩
        case measure => simp [intOf]; omega
      · have HP := Lib.hid hp
        have hq : 0 < u := by unfold posB at hp; rw [hU] at hp; simpa using hp
        clear hp
        have hcm : (cmpI u 0 == 1) = true := by have := cmp_pos.2 hq; rw [this]; rfl
        go_wp2_with fail
        refine (iUp_t _ _ hs).mono ?_; rintro e w2 ⟨rfl, hw⟩
        rw [hU]
        go_wp2_with fail
        refine (cmp_any _ _ _).mono ?_; rintro e w3 ⟨rfl, rfl⟩
        go_wp2_with fail
        all_goals go_roundw
        case rel => exact ⟨k + 1, by omega, ret_v (cnt_yes HP.out), ret_v (by omega), bel_next hB hw⟩
        case measure => simp [intOf]; omega
    · obtain rfl : k = 360 := by omega
      go_wp2_with fail
      go_ret
      exact ⟨rfl, hB⟩
theorem iNeg_f {l t : Int} (w : World) (hs : skyB l t = false) : Calls Try.prog 60 #[.int .i64 l, .int .i64 t, .int .i64 (-1)] w fun e w' => e = .returned (.int .i64 0) ∧ Below w.heap.size w w' := by
  go_enter Try.func60, Try.ntmps60
  go_wp2_with fail
  refine (iSky_any _ _ _).mono ?_; rintro e w1 ⟨rfl, rfl⟩
  rw [hs]
  go_wp2
  go_ret
  exact ⟨rfl, Below.refl _ _⟩
set_option maxHeartbeats 4000000 in
theorem iNeg_t {l t : Int} (w : World) (hs : skyB l t = true) : Calls Try.prog 60 #[.int .i64 l, .int .i64 t, .int .i64 (-1)] w fun e w' => e = .returned (.int .i64 (cnt (negB l t) (-180) 360)) ∧ Below w.heap.size w w' := by
  go_enter Try.func60, Try.ntmps60
  go_wp2_with fail
  refine (iSky_any _ _ _).mono ?_; rintro e w1 ⟨rfl, rfl⟩
  rw [hs]
  go_wp2_with fail
  go_loopw [7, 8] (fun n h wr => ∃ k : Nat, k ≤ 360 ∧ n = .int .i64 (cnt (negB l t) (-180) k) ∧ h = .int .i64 (-180 + k) ∧ Below w.heap.size w wr) (fun _ h _ => (180 - intOf h).toNat)
  case atStart => exact ⟨0, by omega, rfl, rfl, Below.refl _ _⟩
  case round =>
    obtain ⟨k, hk, rfl, rfl, hB⟩ := hrel
    by_cases hlt : k < 360
    · have hc := cnt_bd (negB l t) (-180) k
      have hu := up_bd l t (-180 + k)
      generalize hU : upI l t (-180 + k) = u at hu
      cases hp : negB l t (-180 + k)
      · have HP := Lib.hid hp
        have hq : 0 ≤ u := by unfold negB at hp; rw [hU] at hp; simpa using hp
        clear hp
        have hcm : (cmpI u 0 == (-1)) = false := by rw [beq_eq_false_iff_ne]; intro e; have := cmp_neg.1 e; omega
        go_wp2_with fail
        refine (iUp_t _ _ hs).mono ?_; rintro e w2 ⟨rfl, hw⟩
        rw [hU]
        go_wp2_with fail
        refine (cmp_any _ _ _).mono ?_; rintro e w3 ⟨rfl, rfl⟩
        go_wp2_with fail
        all_goals go_roundw
        case rel => exact ⟨k + 1, by omega, ret_v (cnt_no HP.out), ret_v (by omega), bel_next hB hw⟩
        case measure => simp [intOf]; omega
      · have HP := Lib.hid hp
        have hq : u < 0 := by unfold negB at hp; rw [hU] at hp; simpa using hp
        clear hp
        have hcm : (cmpI u 0 == (-1)) = true := by have := cmp_neg.2 hq; rw [this]; rfl
        go_wp2_with fail
        refine (iUp_t _ _ hs).mono ?_; rintro e w2 ⟨rfl, hw⟩
        rw [hU]
        go_wp2_with fail
        refine (cmp_any _ _ _).mono ?_; rintro e w3 ⟨rfl, rfl⟩
        go_wp2_with fail
        all_goals go_roundw
        case rel => exact ⟨k + 1, by omega, ret_v (cnt_yes HP.out), ret_v (by omega), bel_next hB hw⟩
        case measure => simp [intOf]; omega
    · obtain rfl : k = 360 := by omega
      go_wp2_with fail
      go_ret
      exact ⟨rfl, hB⟩
theorem iNil_f {l t : Int} (w : World) (hs : skyB l t = false) : Calls Try.prog 60 #[.int .i64 l, .int .i64 t, .int .i64 0] w fun e w' => e = .returned (.int .i64 0) ∧ Below w.heap.size w w' := by
  go_enter Try.func60, Try.ntmps60
  go_wp2_with fail
  refine (iSky_any _ _ _).mono ?_; rintro e w1 ⟨rfl, rfl⟩
  rw [hs]
  go_wp2
  go_ret
  exact ⟨rfl, Below.refl _ _⟩
set_option maxHeartbeats 4000000 in
theorem iNil_t {l t : Int} (w : World) (hs : skyB l t = true) : Calls Try.prog 60 #[.int .i64 l, .int .i64 t, .int .i64 0] w fun e w' => e = .returned (.int .i64 (cnt (nilB l t) (-180) 360)) ∧ Below w.heap.size w w' := by
  go_enter Try.func60, Try.ntmps60
  go_wp2_with fail
  refine (iSky_any _ _ _).mono ?_; rintro e w1 ⟨rfl, rfl⟩
  rw [hs]
  go_wp2_with fail
  go_loopw [7, 8] (fun n h wr => ∃ k : Nat, k ≤ 360 ∧ n = .int .i64 (cnt (nilB l t) (-180) k) ∧ h = .int .i64 (-180 + k) ∧ Below w.heap.size w wr) (fun _ h _ => (180 - intOf h).toNat)
  case atStart => exact ⟨0, by omega, rfl, rfl, Below.refl _ _⟩
  case round =>
    obtain ⟨k, hk, rfl, rfl, hB⟩ := hrel
    by_cases hlt : k < 360
    · have hc := cnt_bd (nilB l t) (-180) k
      have hu := up_bd l t (-180 + k)
      generalize hU : upI l t (-180 + k) = u at hu
      cases hp : nilB l t (-180 + k)
      · have HP := Lib.hid hp
        have hq : ¬ u = 0 := by unfold nilB at hp; rw [hU] at hp; simpa using hp
        clear hp
        have hcm : (cmpI u 0 == 0) = false := by rw [beq_eq_false_iff_ne]; intro e; have := cmp_nil.1 e; omega
        go_wp2_with fail
        refine (iUp_t _ _ hs).mono ?_; rintro e w2 ⟨rfl, hw⟩
        rw [hU]
        go_wp2_with fail
        refine (cmp_any _ _ _).mono ?_; rintro e w3 ⟨rfl, rfl⟩
        go_wp2_with fail
        all_goals go_roundw
        case rel => exact ⟨k + 1, by omega, ret_v (cnt_no HP.out), ret_v (by omega), bel_next hB hw⟩
        case measure => simp [intOf]; omega
      · have HP := Lib.hid hp
        have hq : u = 0 := by unfold nilB at hp; rw [hU] at hp; simpa using hp
        clear hp
        have hcm : (cmpI u 0 == 0) = true := by have := cmp_nil.2 hq; rw [this]; rfl
        go_wp2_with fail
        refine (iUp_t _ _ hs).mono ?_; rintro e w2 ⟨rfl, hw⟩
        rw [hU]
        go_wp2_with fail
        refine (cmp_any _ _ _).mono ?_; rintro e w3 ⟨rfl, rfl⟩
        go_wp2_with fail
        all_goals go_roundw
        case rel => exact ⟨k + 1, by omega, ret_v (cnt_yes HP.out), ret_v (by omega), bel_next hB hw⟩
        case measure => simp [intOf]; omega
    · obtain rfl : k = 360 := by omega
      go_wp2_with fail
      go_ret
      exact ⟨rfl, hB⟩
theorem sPos_f {l t : Int} (w : World) (hs : skyB l t = false) : Calls Try.prog 79 #[.int .i64 l, .int .i64 t, .int .i64 1] w fun e w' => e = .returned (.int .i64 0) ∧ Below w.heap.size w w' := by
  go_enter Try.func79, Try.ntmps79
  go_wp2_with fail
  go_loopw [7, 8] (fun n h wr => n = .int .i64 0 ∧ h = .int .i64 (-180) ∧ w = wr) (fun _ _ _ => 0)
  case atStart => exact ⟨rfl, rfl, rfl⟩
  case round =>
    obtain ⟨rfl, rfl, rfl⟩ := hrel
    go_wp2_with fail
    refine (sSky_any _ _ _).mono ?_; rintro e w1 ⟨rfl, rfl⟩
    rw [hs]
    go_wp2
    go_ret
    exact ⟨rfl, Below.refl _ _⟩
set_option maxHeartbeats 4000000 in
theorem sPos_t {l t : Int} (w : World) (hs : skyB l t = true) : Calls Try.prog 79 #[.int .i64 l, .int .i64 t, .int .i64 1] w fun e w' => e = .returned (.int .i64 (cnt (posB l t) (-180) 360)) ∧ Below w.heap.size w w' := by
  go_enter Try.func79, Try.ntmps79
  go_wp2_with fail
  go_loopw [7, 8] (fun n h wr => ∃ k : Nat, k ≤ 360 ∧ n = .int .i64 (cnt (posB l t) (-180) k) ∧ h = .int .i64 (-180 + k) ∧ Below w.heap.size w wr) (fun _ h _ => (180 - intOf h).toNat)
  case atStart => exact ⟨0, by omega, rfl, rfl, Below.refl _ _⟩
  case round =>
    obtain ⟨k, hk, rfl, rfl, hB⟩ := hrel
    by_cases hlt : k < 360
    · have hc := cnt_bd (posB l t) (-180) k
      have hu := up_bd l t (-180 + k)
      generalize hU : upI l t (-180 + k) = u at hu
      cases hp : posB l t (-180 + k)
      · have HP := Lib.hid hp
        have hq : u ≤ 0 := by unfold posB at hp; rw [hU] at hp; simpa using hp
        clear hp
        go_wp2_with fail
        refine (sSky_any _ _ _).mono ?_; rintro e w1 ⟨rfl, rfl⟩
        rw [hs]
        go_wp2_with fail
        refine (sUp_t _ _ hs).mono ?_; rintro e w2 ⟨rfl, hw⟩
        rw [hU]
        go_wp2_with fail
        all_goals go_roundw
        case rel => exact ⟨k + 1, by omega, ret_v (cnt_no HP.out), ret_v (by omega), bel_next hB hw⟩
        case measure => simp [intOf]; omega
      · have HP := Lib.hid hp
        have hq : 0 < u := by unfold posB at hp; rw [hU] at hp; simpa using hp
        clear hp
        go_wp2_with fail
        refine (sSky_any _ _ _).mono ?_; rintro e w1 ⟨rfl, rfl⟩
        rw [hs]
        go_wp2_with fail
        refine (sUp_t _ _ hs).mono ?_; rintro e w2 ⟨rfl, hw⟩
        rw [hU]
        go_wp2_with fail
        all_goals go_roundw
        case rel => exact ⟨k + 1, by omega, ret_v (cnt_yes HP.out), ret_v (by omega), bel_next hB hw⟩
        case measure => simp [intOf]; omega
    · obtain rfl : k = 360 := by omega
      go_wp2_with fail
      go_wp2
      go_ret
      exact ⟨rfl, hB⟩
theorem sNeg_f {l t : Int} (w : World) (hs : skyB l t = false) : Calls Try.prog 79 #[.int .i64 l, .int .i64 t, .int .i64 (-1)] w fun e w' => e = .returned (.int .i64 0) ∧ Below w.heap.size w w' := by
  go_enter Try.func79, Try.ntmps79
  go_wp2_with fail
  go_loopw [7, 8] (fun n h wr => n = .int .i64 0 ∧ h = .int .i64 (-180) ∧ w = wr) (fun _ _ _ => 0)
  case atStart => exact ⟨rfl, rfl, rfl⟩
  case round =>
    obtain ⟨rfl, rfl, rfl⟩ := hrel
    go_wp2_with fail
    refine (sSky_any _ _ _).mono ?_; rintro e w1 ⟨rfl, rfl⟩
    rw [hs]
    go_wp2
    go_ret
    exact ⟨rfl, Below.refl _ _⟩
set_option maxHeartbeats 4000000 in
theorem sNeg_t {l t : Int} (w : World) (hs : skyB l t = true) : Calls Try.prog 79 #[.int .i64 l, .int .i64 t, .int .i64 (-1)] w fun e w' => e = .returned (.int .i64 (cnt (negB l t) (-180) 360)) ∧ Below w.heap.size w w' := by
  go_enter Try.func79, Try.ntmps79
  go_wp2_with fail
  go_loopw [7, 8] (fun n h wr => ∃ k : Nat, k ≤ 360 ∧ n = .int .i64 (cnt (negB l t) (-180) k) ∧ h = .int .i64 (-180 + k) ∧ Below w.heap.size w wr) (fun _ h _ => (180 - intOf h).toNat)
  case atStart => exact ⟨0, by omega, rfl, rfl, Below.refl _ _⟩
  case round =>
    obtain ⟨k, hk, rfl, rfl, hB⟩ := hrel
    by_cases hlt : k < 360
    · have hc := cnt_bd (negB l t) (-180) k
      have hu := up_bd l t (-180 + k)
      generalize hU : upI l t (-180 + k) = u at hu
      cases hp : negB l t (-180 + k)
      · have HP := Lib.hid hp
        have hq : 0 ≤ u := by unfold negB at hp; rw [hU] at hp; simpa using hp
        clear hp
        go_wp2_with fail
        refine (sSky_any _ _ _).mono ?_; rintro e w1 ⟨rfl, rfl⟩
        rw [hs]
        go_wp2_with fail
        refine (sUp_t _ _ hs).mono ?_; rintro e w2 ⟨rfl, hw⟩
        rw [hU]
        go_wp2_with fail
        all_goals go_roundw
        case rel => exact ⟨k + 1, by omega, ret_v (cnt_no HP.out), ret_v (by omega), bel_next hB hw⟩
        case measure => simp [intOf]; omega
      · have HP := Lib.hid hp
        have hq : u < 0 := by unfold negB at hp; rw [hU] at hp; simpa using hp
        clear hp
        go_wp2_with fail
        refine (sSky_any _ _ _).mono ?_; rintro e w1 ⟨rfl, rfl⟩
        rw [hs]
        go_wp2_with fail
        refine (sUp_t _ _ hs).mono ?_; rintro e w2 ⟨rfl, hw⟩
        rw [hU]
        go_wp2_with fail
        all_goals go_roundw
        case rel => exact ⟨k + 1, by omega, ret_v (cnt_yes HP.out), ret_v (by omega), bel_next hB hw⟩
        case measure => simp [intOf]; omega
    · obtain rfl : k = 360 := by omega
      go_wp2_with fail
      go_wp2
      go_ret
      exact ⟨rfl, hB⟩
theorem sNil_f {l t : Int} (w : World) (hs : skyB l t = false) : Calls Try.prog 79 #[.int .i64 l, .int .i64 t, .int .i64 0] w fun e w' => e = .returned (.int .i64 0) ∧ Below w.heap.size w w' := by
  go_enter Try.func79, Try.ntmps79
  go_wp2_with fail
  go_loopw [7, 8] (fun n h wr => n = .int .i64 0 ∧ h = .int .i64 (-180) ∧ w = wr) (fun _ _ _ => 0)
  case atStart => exact ⟨rfl, rfl, rfl⟩
  case round =>
    obtain ⟨rfl, rfl, rfl⟩ := hrel
    go_wp2_with fail
    refine (sSky_any _ _ _).mono ?_; rintro e w1 ⟨rfl, rfl⟩
    rw [hs]
    go_wp2
    go_ret
    exact ⟨rfl, Below.refl _ _⟩
set_option maxHeartbeats 4000000 in
theorem sNil_t {l t : Int} (w : World) (hs : skyB l t = true) : Calls Try.prog 79 #[.int .i64 l, .int .i64 t, .int .i64 0] w fun e w' => e = .returned (.int .i64 (cnt (nilB l t) (-180) 360)) ∧ Below w.heap.size w w' := by
  go_enter Try.func79, Try.ntmps79
  go_wp2_with fail
  go_loopw [7, 8] (fun n h wr => ∃ k : Nat, k ≤ 360 ∧ n = .int .i64 (cnt (nilB l t) (-180) k) ∧ h = .int .i64 (-180 + k) ∧ Below w.heap.size w wr) (fun _ h _ => (180 - intOf h).toNat)
  case atStart => exact ⟨0, by omega, rfl, rfl, Below.refl _ _⟩
  case round =>
    obtain ⟨k, hk, rfl, rfl, hB⟩ := hrel
    by_cases hlt : k < 360
    · have hc := cnt_bd (nilB l t) (-180) k
      have hu := up_bd l t (-180 + k)
      generalize hU : upI l t (-180 + k) = u at hu
      cases hp : nilB l t (-180 + k)
      · have HP := Lib.hid hp
        have hq : ¬ u = 0 := by unfold nilB at hp; rw [hU] at hp; simpa using hp
        clear hp
        go_wp2_with fail
        refine (sSky_any _ _ _).mono ?_; rintro e w1 ⟨rfl, rfl⟩
        rw [hs]
        go_wp2_with fail
        refine (sUp_t _ _ hs).mono ?_; rintro e w2 ⟨rfl, hw⟩
        rw [hU]
        go_wp2_with fail
        all_goals go_roundw
        case rel => exact ⟨k + 1, by omega, ret_v (cnt_no HP.out), ret_v (by omega), bel_next hB hw⟩
        case measure => simp [intOf]; omega
      · have HP := Lib.hid hp
        have hq : u = 0 := by unfold nilB at hp; rw [hU] at hp; simpa using hp
        clear hp
        go_wp2_with fail
        refine (sSky_any _ _ _).mono ?_; rintro e w1 ⟨rfl, rfl⟩
        rw [hs]
        go_wp2_with fail
        refine (sUp_t _ _ hs).mono ?_; rintro e w2 ⟨rfl, hw⟩
        rw [hU]
        go_wp2_with fail
        all_goals go_roundw
        case rel => exact ⟨k + 1, by omega, ret_v (cnt_yes HP.out), ret_v (by omega), bel_next hB hw⟩
        case measure => simp [intOf]; omega
    · obtain rfl : k = 360 := by omega
      go_wp2_with fail
      go_wp2
      go_ret
      exact ⟨rfl, hB⟩
end Go.Proofs.Ytbiajaafdbbmgad
