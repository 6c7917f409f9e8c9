/- Contracts of chapter 1: the older calendar. -/
import Derived.Test.YthfehlmddlfcmaaCc
import Derived.Test.YthfehlmddlfcmaaCal3
namespace Go.Proofs.Ythfehlmddlfcmaa
open Go.ChangeShapes Go.WideShapes Go.ChangeAt Go.RowKit
set_option linter.unusedSimpArgs false

theorem yv_b {n : Int} {b : Bool} (w : World) (h : inB n 1 4000 = b) : Calls Try.prog 70 #[.int .i64 n] w fun e w' => e = .returned (.bool b) ∧ w = w' := by
  have := yv_any n w; rw [h] at this; exact this
theorem l1In_b {n x y : Int} {b : Bool} (w : World) (h : inB n x y = b) : Calls Try.prog 71 #[.int .i64 n, .int .i64 x, .int .i64 y] w fun e w' => e = .returned (.bool b) ∧ w = w' := by
  have := l1In_any n x y w; rw [h] at this; exact this
theorem oL_any (y : Int) (w : World) (h : 0 ≤ y) :
    Calls Try.prog 77 #[.int .i64 y] w fun e w' => e = .returned (.bool (y % 4 == 0)) ∧ w = w' := by
  go_enter Try.func77, Try.ntmps77
  go_wp2
  go_ret
  exact ⟨ret_bool rfl, rfl⟩
theorem oDBY_any (y : Int) (w : World) (h1 : 1 ≤ y) (h2 : y ≤ 4002) :
    Calls Try.prog 84 #[.int .i64 y] w fun e w' => e = .returned (.int .i64 (ody y)) ∧ w = w' := by
  go_enter Try.func84, Try.ntmps84
  go_wp2
  go_ret
  exact ⟨ret_int (by unfold ody; omega), rfl⟩
theorem oYO_any (n : Int) (w : World) (h0 : 0 ≤ n) (h1 : n ≤ 1460971) :
    Calls Try.prog 85 #[.int .i64 n] w fun e w' => e = .returned (.int .i64 (oyo n)) ∧ w = w' := by
  go_enter Try.func85, Try.ntmps85
  go_wp2
  all_goals go_ret
  all_goals exact ⟨ret_int (by unfold oyo; omega), rfl⟩
set_option maxHeartbeats 2000000 in
theorem iOV_any (y m d : Int) (w : World) :
    Calls Try.prog 33 #[.agg #[.int .i64 y, .int .i64 m, .int .i64 d]] w fun e w' => e = .returned (.bool (oval y m d)) ∧ Below w.heap.size w w' := by
  by_cases hy : 1 ≤ y ∧ y ≤ 4000
  · have hb := inB_t hy.1 hy.2
    have e1 : decide (1 ≤ y ∧ y ≤ 4000) = true := by simpa using hy
    have E1 := Lib.hid e1
    obtain ⟨y1, y2⟩ := hy
    clear e1
    by_cases hd : 1 ≤ d
    · go_enter Try.func33, Try.ntmps33
      go_wp2_with fail
      go_quiet (first | (go_at_call 70; exact quiet_left (yv_b _ hb)) | (go_at_call 77; exact quiet_left (oL_any _ _ (by omega))) | (go_at_call 72; exact quiet_left (md_any _ _ _)))
      go_wp2
      go_ret
      exact ⟨ret_bool (by rw [Bool.eq_iff_iff]; simp [oval, y1, y2, hd]), bel1d _ _ _⟩
    · have hf : decide (1 ≤ d) = false := by simpa using hd
      go_enter Try.func33, Try.ntmps33
      go_wp2_with fail
      go_quiet ((go_at_call 70; exact quiet_left (yv_b _ hb)))
      go_wp2
      go_ret
      exact ⟨ret_bool (by rw [Bool.eq_iff_iff]; simp [oval]; omega), bel1d _ _ _⟩
  · have hb := inB_f hy
    have HY := Lib.hid hy
    clear hy
    go_enter Try.func33, Try.ntmps33
    go_wp2_with fail
    go_quiet ((go_at_call 70; exact quiet_left (yv_b _ hb)))
    go_wp2
    go_ret
    exact ⟨ret_bool (by rw [Bool.eq_iff_iff]; have := HY.out; simp [oval]; omega), bel1d _ _ _⟩
set_option maxHeartbeats 2000000 in
theorem sOV_any (y m d : Int) (w : World) :
    Calls Try.prog 58 #[.agg #[.int .i64 y, .int .i64 m, .int .i64 d]] w fun e w' => e = .returned (.bool (oval y m d)) ∧ Below w.heap.size w w' := by
  by_cases hy : 1 ≤ y ∧ y ≤ 4000
  · have hb := inB_t hy.1 hy.2
    obtain ⟨y1, y2⟩ := hy
    by_cases hm : 1 ≤ m ∧ m ≤ 12
    · have hb2 := inB_t hm.1 hm.2
      obtain ⟨m1, m2⟩ := hm
      go_enter Try.func58, Try.ntmps58
      go_wp2_with fail
      go_region_held3 (fun w' => w'.cell? ⟨w.heap.size, 0, none⟩ = some (.int .i64 y) ∧ w'.cell? ⟨w.heap.size, 1, none⟩ = some (.int .i64 m) ∧ w'.cell? ⟨w.heap.size, 2, none⟩ = some (.int .i64 d) ∧ w.heap.size < w'.heap.size ∧ Below w.heap.size w w')
        (first
          | (refine ⟨?_, ?_, ?_, ?_, ?_⟩ <;> first | (simp; done) | exact (bel1 _ _).drew)
          | (go_split_ands; exact keep3 (by first | assumption | (simp; done)) (by first | assumption | (simp; done)) (by first | assumption | (simp; done)) (by first | assumption | (simp; done)) (by first | assumption | exact (bel1 _ _).drew) hw))
        (first | (go_at_call 75; (refine (l1M_any _ _ _ m1 m2).mono ?_); rintro e w' ⟨rfl, hw⟩) | (go_at_call 71; refine (l1In_any _ _ _ _).mono ?_; rintro e w' ⟨rfl, rfl⟩))
      go_wp2
      go_ret
      exact ⟨ret_bool (by rw [Bool.eq_iff_iff]; rw [Int.tmod_eq_emod_of_nonneg (by omega)]; simp [oval, inB, y1, y2]), by rename_i hh; exact hh.2.2.2.2⟩
    · have hb2 := inB_f hm
      have HM := Lib.hid hm
      clear hm
      go_enter Try.func58, Try.ntmps58
      go_wp2_with fail
      go_quiet ((go_at_call 71; first | exact quiet_left (l1In_b _ hb) | exact quiet_left (l1In_b _ hb2)))
      go_wp2
      go_ret
      exact ⟨ret_bool (by rw [Bool.eq_iff_iff]; simp [oval, dim_out _ _ HM.out]; omega), bel1d _ _ _⟩
  · have hb := inB_f hy
    have HY := Lib.hid hy
    clear hy
    go_enter Try.func58, Try.ntmps58
    go_wp2_with fail
    go_quiet ((go_at_call 71; first | exact quiet_left (l1In_b _ hb) | exact quiet_left (l1In_b _ hb2)))
    go_wp2
    go_ret
    exact ⟨ret_bool (by rw [Bool.eq_iff_iff]; have := HY.out; simp [oval]; omega), bel1d _ _ _⟩
end Go.Proofs.Ythfehlmddlfcmaa
