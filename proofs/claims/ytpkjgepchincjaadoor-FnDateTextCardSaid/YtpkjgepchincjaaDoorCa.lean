/- Contracts of chapter 1's small functions: leap years, lengths of months, valid dates. -/
import Derived.Test.YtpkjgepchincjaaDoorRows
import Derived.Test.YtpkjgepchincjaaDoorHelp
import Derived.Test.YtpkjgepchincjaaDoorCal
import Derived.Test.YtpkjgepchincjaaDoorLp
namespace Go.Proofs.YtpkjgepchincjaaDoor
open Go.ChangeShapes Go.WideShapes Go.ChangeAt Go.RowKit
set_option linter.unusedSimpArgs false

theorem l1In_any (n a b : Int) (w : World) :
    Calls Tryd.prog 33 #[.int .i64 n, .int .i64 a, .int .i64 b] w fun e w' => e = .returned (.bool (inB n a b)) ∧ w = w' := by
  go_enter Tryd.func33, Tryd.ntmps33
  go_wp2
  all_goals go_ret
  all_goals exact ⟨ret_bool (by rw [Bool.eq_iff_iff]; simp [inB]; omega), rfl⟩
theorem sLeap_any (y : Int) (w : World) :
    Calls Tryd.prog 50 #[.int .i64 y] w fun e w' => e = .returned (.bool (leapB y)) ∧ w = w' := by
  by_cases hy : 1 ≤ y ∧ y ≤ 4000
  · have hb := inB_t hy.1 hy.2
    obtain ⟨h1, h2⟩ := hy
    go_enter Tryd.func50, Tryd.ntmps50
    go_wp2_with (go_at_call 33; refine (l1In_any _ _ _ _).mono ?_; rintro e w' ⟨rfl, rfl⟩)
    all_goals go_ret
    all_goals exact ⟨ret_bool (by rw [Bool.eq_iff_iff]; simp [leapB]; omega), rfl⟩
  · have hb := inB_f hy
    go_enter Tryd.func50, Tryd.ntmps50
    go_wp2_with (go_at_call 33; refine (l1In_any _ _ _ _).mono ?_; rintro e w' ⟨rfl, rfl⟩)
    all_goals go_ret
    all_goals exact ⟨ret_bool (by rw [Bool.eq_iff_iff]; simp [leapB]; omega), rfl⟩
set_option maxHeartbeats 4000000 in
theorem md_any (m : Int) (l : Bool) (w : World) :
    Calls Tryd.prog 37 #[.int .i64 m, .bool l] w fun e w' => e = .returned (.int .i64 (dim m l)) ∧ w = w' := by
  by_cases h : 1 ≤ m ∧ m ≤ 12
  · have hm : m = 1 ∨ m = 2 ∨ m = 3 ∨ m = 4 ∨ m = 5 ∨ m = 6 ∨ m = 7 ∨ m = 8 ∨ m = 9 ∨ m = 10 ∨ m = 11 ∨ m = 12 := by omega
    clear h
    rcases hm with rfl | rfl | rfl | rfl | rfl | rfl | rfl | rfl | rfl | rfl | rfl | rfl
    case inr.inl =>
      cases l
      all_goals
        go_enter Tryd.func37, Tryd.ntmps37
        go_wp2
        go_ret
        exact ⟨rfl, rfl⟩
    all_goals
      go_enter Tryd.func37, Tryd.ntmps37
      go_wp2
      go_ret
      exact ⟨rfl, rfl⟩
  · have e := Lib.hid (dim_out m l h)
    have k1 : (m == 1) = false := by rw [beq_eq_false_iff_ne]; omega
    have k2 : (m == 2) = false := by rw [beq_eq_false_iff_ne]; omega
    have k3 : (m == 3) = false := by rw [beq_eq_false_iff_ne]; omega
    have k4 : (m == 4) = false := by rw [beq_eq_false_iff_ne]; omega
    have k5 : (m == 5) = false := by rw [beq_eq_false_iff_ne]; omega
    have k6 : (m == 6) = false := by rw [beq_eq_false_iff_ne]; omega
    have k7 : (m == 7) = false := by rw [beq_eq_false_iff_ne]; omega
    have k8 : (m == 8) = false := by rw [beq_eq_false_iff_ne]; omega
    have k9 : (m == 9) = false := by rw [beq_eq_false_iff_ne]; omega
    have k10 : (m == 10) = false := by rw [beq_eq_false_iff_ne]; omega
    have k11 : (m == 11) = false := by rw [beq_eq_false_iff_ne]; omega
    have k12 : (m == 12) = false := by rw [beq_eq_false_iff_ne]; omega
    clear h
    go_enter Tryd.func37, Tryd.ntmps37
    go_wp2
    go_ret
    exact ⟨ret_int e.out.symm, rfl⟩
set_option maxHeartbeats 4000000 in
theorem l1M_any (m : Int) (l : Bool) (w : World) (h1 : 1 ≤ m) (h2 : m ≤ 12) :
    Calls Tryd.prog 49 #[.int .i64 m, .bool l] w fun e w' => e = .returned (.int .i64 (dim m l)) ∧ Below w.heap.size w w' := by
  have hm : m = 1 ∨ m = 2 ∨ m = 3 ∨ m = 4 ∨ m = 5 ∨ m = 6 ∨ m = 7 ∨ m = 8 ∨ m = 9 ∨ m = 10 ∨ m = 11 ∨ m = 12 := by omega
  clear h1 h2
  rcases hm with rfl | rfl | rfl | rfl | rfl | rfl | rfl | rfl | rfl | rfl | rfl | rfl
  case inr.inl =>
    cases l
    all_goals
      go_enter Tryd.func49, Tryd.ntmps49
      go_wp2
      go_ret
      exact ⟨rfl, bel1 _ _⟩
  all_goals
    go_enter Tryd.func49, Tryd.ntmps49
    go_wp2
    go_ret
    exact ⟨rfl, bel1 _ _⟩
theorem iML_any (y m : Int) (w : World) :
    Calls Tryd.prog 23 #[.int .i64 y, .int .i64 m] w fun e w' => e = .returned (.int .i64 (ml y m)) ∧ w = w' := by
  unfold ml
  by_cases hy : 1 ≤ y ∧ y ≤ 4000
  · have hb := inB_t hy.1 hy.2
    go_enter Tryd.func23, Tryd.ntmps23
    go_wp2_with (first | (go_at_call 36; refine (yv_any _ _).mono ?_; rintro e w' ⟨rfl, rfl⟩) | (go_at_call 24; refine (iLeap_any _ _).mono ?_; rintro e w' ⟨rfl, rfl⟩) | (go_at_call 37; refine (md_any _ _ _).mono ?_; rintro e w' ⟨rfl, rfl⟩))
    go_ret
    exact ⟨ret_int (by simp [hy]), rfl⟩
  · have hb := inB_f hy
    go_enter Tryd.func23, Tryd.ntmps23
    go_wp2_with (go_at_call 36; refine (yv_any _ _).mono ?_; rintro e w' ⟨rfl, rfl⟩)
    go_ret
    exact ⟨ret_int (by simp [hy]), rfl⟩
theorem sML_any (y m : Int) (w : World) :
    Calls Tryd.prog 34 #[.int .i64 y, .int .i64 m] w fun e w' => e = .returned (.int .i64 (ml y m)) ∧ Below w.heap.size w w' := by
  unfold ml
  by_cases hy : 1 ≤ y ∧ y ≤ 4000
  · have hb := inB_t hy.1 hy.2
    by_cases hm : 1 ≤ m ∧ m ≤ 12
    · have hb2 := inB_t hm.1 hm.2
      go_enter Tryd.func34, Tryd.ntmps34
      go_wp2_with (first | (go_at_call 33; refine (l1In_any _ _ _ _).mono ?_; rintro e w' ⟨rfl, rfl⟩) | (go_at_call 50; refine (sLeap_any _ _).mono ?_; rintro e w' ⟨rfl, rfl⟩) | (go_at_call 49; refine (l1M_any _ _ _ hm.1 hm.2).mono ?_; rintro e w' ⟨rfl, hw⟩))
      go_ret
      exact ⟨ret_int (by simp [hy]), hw⟩
    · have hb2 := inB_f hm
      go_enter Tryd.func34, Tryd.ntmps34
      go_wp2_with (go_at_call 33; refine (l1In_any _ _ _ _).mono ?_; rintro e w' ⟨rfl, rfl⟩)
      go_ret
      exact ⟨ret_int (by simp [dim_out _ _ hm]), Below.refl _ _⟩
  · have hb := inB_f hy
    go_enter Tryd.func34, Tryd.ntmps34
    go_wp2_with (go_at_call 33; refine (l1In_any _ _ _ _).mono ?_; rintro e w' ⟨rfl, rfl⟩)
    go_ret
    exact ⟨ret_int (by simp [hy]), Below.refl _ _⟩
theorem iDV_any (y m d : Int) (w : World) :
    Calls Tryd.prog 10 #[.agg #[.int .i64 y, .int .i64 m, .int .i64 d]] w fun e w' => e = .returned (.bool (valB y m d)) ∧ Below w.heap.size w w' := by
  by_cases h1 : 1 ≤ d
  · go_enter Tryd.func10, Tryd.ntmps10
    go_wp2_with fail
    go_quiet ((go_at_call 23; exact quiet_left (iML_any _ _ _)))
    go_wp2
    go_ret
    exact ⟨ret_bool (by rw [Bool.eq_iff_iff]; simp [valB, h1]), bel1d _ _ _⟩
  · have hd : decide (1 ≤ d) = false := by simpa using h1
    go_enter Tryd.func10, Tryd.ntmps10
    go_wp2_with fail
    go_quiet (fail)
    go_wp2
    go_ret
    exact ⟨ret_bool (by rw [Bool.eq_iff_iff]; simp [valB]; omega), bel1d _ _ _⟩
theorem sDV_any (y m d : Int) (w : World) :
    Calls Tryd.prog 21 #[.agg #[.int .i64 y, .int .i64 m, .int .i64 d]] w fun e w' => e = .returned (.bool (valB y m d)) ∧ Below w.heap.size w w' := by
  go_enter Tryd.func21, Tryd.ntmps21
  go_wp2_with fail
  go_region_held3 (fun w' => w'.cell? ⟨w.heap.size, 0, none⟩ = some (.int .i64 y) ∧ w'.cell? ⟨w.heap.size, 1, none⟩ = some (.int .i64 m) ∧ w'.cell? ⟨w.heap.size, 2, none⟩ = some (.int .i64 d) ∧ w.heap.size < w'.heap.size ∧ Below w.heap.size w w')
    (first
      | (refine ⟨?_, ?_, ?_, ?_, ?_⟩ <;> first | (simp; done) | exact (bel1 _ _).drew)
      | (go_split_ands; exact keep3 (by first | assumption | (simp; done)) (by first | assumption | (simp; done)) (by first | assumption | (simp; done)) (by first | assumption | (simp; done)) (by first | assumption | exact (bel1 _ _).drew) hw))
    (first | (go_at_call 34; (refine (sML_any _ _ _).mono ?_); rintro e w' ⟨rfl, hw⟩) | (go_at_call 33; refine (l1In_any _ _ _ _).mono ?_; rintro e w' ⟨rfl, rfl⟩))
  go_wp2
  go_ret
  exact ⟨ret_bool rfl, by rename_i hh; exact hh.2.2.2.2⟩
theorem toDate_any (y m d : Int) (w : World) :
    Calls Tryd.prog 16 #[.agg #[.int .i64 y, .int .i64 m, .int .i64 d]] w fun e w' => e = .returned (.agg #[.int .i64 y, .int .i64 m, .int .i64 d]) ∧ Below w.heap.size w w' := by
  go_enter Tryd.func16, Tryd.ntmps16
  go_wp2
  refine bodyPost_ret (v := .agg #[.int .i64 y, .int .i64 m, .int .i64 d]) (by simp [results, Tryd.results16, go_sem]) rfl ⟨rfl, ((bel1 _ _).alloc (by simp) _).alloc (by simp; omega) _⟩
theorem eqDate_any (y m d y' m' d' : Int) (w : World) :
    Calls Tryd.prog 17 #[.agg #[.int .i64 y, .int .i64 m, .int .i64 d], .agg #[.int .i64 y', .int .i64 m', .int .i64 d']] w fun e w' => e = .returned (.bool (decide (y = y' ∧ m = m' ∧ d = d'))) ∧ Below w.heap.size w w' := by
  go_enter Tryd.func17, Tryd.ntmps17
  go_wp2
  all_goals go_ret
  all_goals exact ⟨ret_bool (by simp_all), ((bel1 _ _).alloc (by simp) _)⟩
end Go.Proofs.YtpkjgepchincjaaDoor
