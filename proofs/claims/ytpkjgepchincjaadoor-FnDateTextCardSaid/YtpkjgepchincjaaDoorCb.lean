/- Contracts of chapter 1's numbers of days. -/
import Derived.Test.YtpkjgepchincjaaDoorCa
namespace Go.Proofs.YtpkjgepchincjaaDoor
open Go.ChangeShapes Go.WideShapes Go.ChangeAt Go.RowKit
set_option linter.unusedSimpArgs false

theorem dBY_any (y : Int) (w : World) (h1 : 1 ≤ y) (h2 : y ≤ 4002) :
    Calls Tryd.prog 40 #[.int .i64 y] w fun e w' => e = .returned (.int .i64 (dby y)) ∧ w = w' := by
  go_enter Tryd.func40, Tryd.ntmps40
  go_wp2
  go_ret
  exact ⟨ret_int (by unfold dby; omega), rfl⟩
theorem dBM_any (m : Int) (l : Bool) (w : World) (h1 : 1 ≤ m) (h2 : m ≤ 12) :
    Calls Tryd.prog 51 #[.int .i64 m, .bool l] w fun e w' => e = .returned (.int .i64 (cum m l)) ∧ w = w' := by
  go_enter Tryd.func51, Tryd.ntmps51
  go_wp2
  go_loop [5, 6] (fun s b => ∃ k : Int, 1 ≤ k ∧ k ≤ m ∧ b = .int .i64 k ∧ s = .int .i64 (cum k l)) (fun _ b => (m - intOf b).toNat)
  case atStart => exact ⟨1, by omega, by omega, rfl, rfl⟩
  case round =>
    obtain ⟨k, hk1, hk2, rfl, rfl⟩ := hrel
    have hb := cum_bd k l (by omega) (by omega)
    have hd := dim_le k l
    by_cases hlt : k < m
    · have hs := Lib.hid (cum_succ k l (by omega) (by omega))
      go_wp2_with (go_at_call 37; refine (md_any _ _ _).mono ?_; rintro e w' ⟨rfl, rfl⟩)
      go_round
      case rel => exact ⟨k + 1, by omega, by omega, rfl, by rw [hs.out]⟩
      case measure => simp [intOf]; omega
    · obtain rfl : k = m := by omega
      go_wp2
      go_ret
      exact ⟨rfl, rfl⟩
theorem iDOY_t (y m d : Int) (w : World) (h : valB y m d = true) :
    Calls Tryd.prog 41 #[.agg #[.int .i64 y, .int .i64 m, .int .i64 d]] w fun e w' => e = .returned (.int .i64 (cum m (leapB y) + d)) ∧ Below w.heap.size w w' := by
  obtain ⟨h1, h2, h3, h4, h5, h6⟩ := valB_in h
  have hd := dim_le m (leapB y)
  have hb := cum_bd m (leapB y) h3 h4
  go_enter Tryd.func41, Tryd.ntmps41
  go_wp2_with (go_at_call 10; refine (iDV_any _ _ _ _).mono ?_; rintro e w1 ⟨rfl, hw⟩; obtain ⟨c0, c1, c2, hz, hB⟩ := own3 hw)
  go_quiet (first | (go_at_call 24; exact quiet_left (iLeap_any _ _)) | (go_at_call 51; exact quiet_left (dBM_any _ _ _ h3 h4)))
  go_wp2
  go_ret
  exact ⟨ret_int rfl, bel_drewN hB _⟩
theorem iDOY_f (y m d : Int) (w : World) (h : valB y m d = false) :
    Calls Tryd.prog 41 #[.agg #[.int .i64 y, .int .i64 m, .int .i64 d]] w fun e w' => e = .returned (.int .i64 0) ∧ Below w.heap.size w w' := by
  go_enter Tryd.func41, Tryd.ntmps41
  go_wp2_with (go_at_call 10; refine (iDV_any _ _ _ _).mono ?_; rintro e w1 ⟨rfl, hw⟩; obtain ⟨c0, c1, c2, hz, hB⟩ := own3 hw)
  go_ret
  exact ⟨ret_int rfl, hB⟩
theorem iDN_f (y m d : Int) (w : World) (h : valB y m d = false) :
    Calls Tryd.prog 27 #[.agg #[.int .i64 y, .int .i64 m, .int .i64 d]] w fun e w' => e = .returned (.int .i64 (-1)) ∧ Below w.heap.size w w' := by
  go_enter Tryd.func27, Tryd.ntmps27
  go_wp2_with (go_at_call 10; refine (iDV_any _ _ _ _).mono ?_; rintro e w1 ⟨rfl, hw⟩; obtain ⟨c0, c1, c2, hz, hB⟩ := own3 hw)
  go_ret
  exact ⟨ret_int rfl, hB⟩
theorem iDN_t (y m d : Int) (w : World) (h : valB y m d = true) :
    Calls Tryd.prog 27 #[.agg #[.int .i64 y, .int .i64 m, .int .i64 d]] w fun e w' => e = .returned (.int .i64 (num y m d)) ∧ Below w.heap.size w w' := by
  obtain ⟨h1, h2, h3, h4, h5, h6⟩ := valB_in h
  have hd := dim_le m (leapB y)
  have hb := cum_bd m (leapB y) h3 h4
  have hy := dby_bd y (by omega) (by omega)
  go_enter Tryd.func27, Tryd.ntmps27
  go_wp2_with (go_at_call 10; refine (iDV_any _ _ _ _).mono ?_; rintro e w1 ⟨rfl, hw⟩; obtain ⟨c0, c1, c2, hz, hB⟩ := own3 hw)
  go_region_held3 (fun w' => w'.cell? ⟨w.heap.size, 0, none⟩ = some (.int .i64 y) ∧ w'.cell? ⟨w.heap.size, 1, none⟩ = some (.int .i64 m) ∧ w'.cell? ⟨w.heap.size, 2, none⟩ = some (.int .i64 d) ∧ w.heap.size < w'.heap.size ∧ Below w.heap.size w w')
    (first
      | (refine ⟨?_, ?_, ?_, ?_, ?_⟩ <;> first | (simp [*]; done) | exact hB.drew)
      | (go_split_ands; exact keep3 (by first | assumption | (simp [*]; done)) (by first | assumption | (simp [*]; done)) (by first | assumption | (simp [*]; done)) (by first | assumption | (simp [*]; done)) (by first | assumption | exact hB.drew) hw))
    (first | (go_at_call 40; (refine (dBY_any _ _ h1 (by omega)).mono ?_); rintro e w' ⟨rfl, rfl⟩) | (go_at_call 41; refine (iDOY_t _ _ _ _ h).mono ?_; rintro e w' ⟨rfl, hw⟩))
  go_wp2
  go_ret
  exact ⟨ret_int (by unfold num; simp only [IntKind.wrap_i64]; omega), by rename_i hh; exact hh.2.2.2.2⟩
end Go.Proofs.YtpkjgepchincjaaDoor
