/- Contracts of chapter 1's numbers of days. -/
import Derived.Test.YtkeghnbckndgfaaCa
namespace Go.Proofs.Ytkeghnbckndgfaa
open Go.ChangeShapes Go.WideShapes Go.ChangeAt Go.RowKit
set_option linter.unusedSimpArgs false

theorem l1B_any (y : Int) (w : World) (h1 : 1 ≤ y) (h2 : y ≤ 4002) :
    Calls Try.prog 28 #[.int .i64 y] w fun e w' => e = .returned (.int .i64 (dby y)) ∧ w = w' := by
  go_enter Try.func28, Try.ntmps28
  go_wp2
  go_ret
  exact ⟨ret_int (by unfold dby; omega), rfl⟩
theorem dBY_any (y : Int) (w : World) (h1 : 1 ≤ y) (h2 : y ≤ 4002) :
    Calls Try.prog 34 #[.int .i64 y] w fun e w' => e = .returned (.int .i64 (dby y)) ∧ w = w' := by
  go_enter Try.func34, Try.ntmps34
  go_wp2
  go_ret
  exact ⟨ret_int (by unfold dby; omega), rfl⟩
theorem dBM_any (m : Int) (l : Bool) (w : World) (h1 : 1 ≤ m) (h2 : m ≤ 12) :
    Calls Try.prog 25 #[.int .i64 m, .bool l] w fun e w' => e = .returned (.int .i64 (cum m l)) ∧ w = w' := by
  go_enter Try.func25, Try.ntmps25
  go_wp2
  go_loop [5, 6] (fun s b => ∃ k : Int, 1 ≤ k ∧ k ≤ m ∧ b = .int .i64 k ∧ s = .int .i64 (cum k l)) (fun _ b => (m - intOf b).toNat)
  case atStart => exact ⟨1, by omega, by omega, rfl, rfl⟩
  case round =>
    obtain ⟨k, hk1, hk2, rfl, rfl⟩ := hrel
    have hb := cum_bd k l (by omega) (by omega)
    have hd := dim_le k l
    by_cases hlt : k < m
    · have hs := Lib.hid (cum_succ k l (by omega) (by omega))
      go_wp2_with (go_at_call 31; refine (md_any _ _ _).mono ?_; rintro e w' ⟨rfl, rfl⟩)
      go_round
      case rel => exact ⟨k + 1, by omega, by omega, rfl, by rw [hs.out]⟩
      case measure => simp [intOf]; omega
    · obtain rfl : k = m := by omega
      go_wp2
      go_ret
      exact ⟨rfl, rfl⟩
theorem iDOY_t (y m d : Int) (w : World) (h : valB y m d = true) :
    Calls Try.prog 14 #[.agg #[.int .i64 y, .int .i64 m, .int .i64 d]] w fun e w' => e = .returned (.int .i64 (cum m (leapB y) + d)) ∧ Below w.heap.size w w' := by
  obtain ⟨h1, h2, h3, h4, h5, h6⟩ := valB_in h
  have hd := dim_le m (leapB y)
  have hb := cum_bd m (leapB y) h3 h4
  go_enter Try.func14, Try.ntmps14
  go_wp2_with (go_at_call 7; refine (iDV_any _ _ _ _).mono ?_; rintro e w1 ⟨rfl, hw⟩; obtain ⟨c0, c1, c2, hz, hB⟩ := own3 hw)
  go_quiet (first | (go_at_call 19; exact quiet_left (iLeap_any _ _)) | (go_at_call 25; exact quiet_left (dBM_any _ _ _ h3 h4)))
  go_wp2
  go_ret
  exact ⟨ret_int rfl, bel_drewN hB _⟩
theorem iDOY_f (y m d : Int) (w : World) (h : valB y m d = false) :
    Calls Try.prog 14 #[.agg #[.int .i64 y, .int .i64 m, .int .i64 d]] w fun e w' => e = .returned (.int .i64 0) ∧ Below w.heap.size w w' := by
  go_enter Try.func14, Try.ntmps14
  go_wp2_with (go_at_call 7; refine (iDV_any _ _ _ _).mono ?_; rintro e w1 ⟨rfl, hw⟩; obtain ⟨c0, c1, c2, hz, hB⟩ := own3 hw)
  go_ret
  exact ⟨ret_int rfl, hB⟩
theorem iDN_f (y m d : Int) (w : World) (h : valB y m d = false) :
    Calls Try.prog 21 #[.agg #[.int .i64 y, .int .i64 m, .int .i64 d]] w fun e w' => e = .returned (.int .i64 (-1)) ∧ Below w.heap.size w w' := by
  go_enter Try.func21, Try.ntmps21
  go_wp2_with (go_at_call 7; refine (iDV_any _ _ _ _).mono ?_; rintro e w1 ⟨rfl, hw⟩; obtain ⟨c0, c1, c2, hz, hB⟩ := own3 hw)
  go_ret
  exact ⟨ret_int rfl, hB⟩
theorem iDN_t (y m d : Int) (w : World) (h : valB y m d = true) :
    Calls Try.prog 21 #[.agg #[.int .i64 y, .int .i64 m, .int .i64 d]] w fun e w' => e = .returned (.int .i64 (num y m d)) ∧ Below w.heap.size w w' := by
  obtain ⟨h1, h2, h3, h4, h5, h6⟩ := valB_in h
  have hd := dim_le m (leapB y)
  have hb := cum_bd m (leapB y) h3 h4
  have hy := dby_bd y (by omega) (by omega)
  go_enter Try.func21, Try.ntmps21
  go_wp2_with (go_at_call 7; refine (iDV_any _ _ _ _).mono ?_; rintro e w1 ⟨rfl, hw⟩; obtain ⟨c0, c1, c2, hz, hB⟩ := own3 hw)
  go_region_held3 (fun w' => w'.cell? ⟨w.heap.size, 0, none⟩ = some (.int .i64 y) ∧ w'.cell? ⟨w.heap.size, 1, none⟩ = some (.int .i64 m) ∧ w'.cell? ⟨w.heap.size, 2, none⟩ = some (.int .i64 d) ∧ w.heap.size < w'.heap.size ∧ Below w.heap.size w w')
    (first
      | (refine ⟨?_, ?_, ?_, ?_, ?_⟩ <;> first | (simp [*]; done) | exact hB.drew)
      | (go_split_ands; exact keep3 (by first | assumption | (simp [*]; done)) (by first | assumption | (simp [*]; done)) (by first | assumption | (simp [*]; done)) (by first | assumption | (simp [*]; done)) (by first | assumption | exact hB.drew) hw))
    (first | (go_at_call 34; (refine (dBY_any _ _ h1 (by omega)).mono ?_); rintro e w' ⟨rfl, rfl⟩) | (go_at_call 14; refine (iDOY_t _ _ _ _ h).mono ?_; rintro e w' ⟨rfl, hw⟩))
  go_wp2
  go_ret
  exact ⟨ret_int (by unfold num; simp only [IntKind.wrap_i64]; omega), by rename_i hh; exact hh.2.2.2.2⟩
theorem sDN_f (y m d : Int) (w : World) (h : valB y m d = false) :
    Calls Try.prog 16 #[.agg #[.int .i64 y, .int .i64 m, .int .i64 d]] w fun e w' => e = .returned (.int .i64 (-1)) ∧ Below w.heap.size w w' := by
  go_enter Try.func16, Try.ntmps16
  go_wp2_with (go_at_call 15; refine (sDV_any _ _ _ _).mono ?_; rintro e w1 ⟨rfl, hw⟩; obtain ⟨c0, c1, c2, hz, hB⟩ := own3 hw)
  go_ret
  exact ⟨ret_int rfl, hB⟩
theorem sDN_t (y m d : Int) (w : World) (h : valB y m d = true) :
    Calls Try.prog 16 #[.agg #[.int .i64 y, .int .i64 m, .int .i64 d]] w fun e w' => e = .returned (.int .i64 (num y m d)) ∧ Below w.heap.size w w' := by
  obtain ⟨h1, h2, h3, h4, h5, h6⟩ := valB_in h
  have hd := dim_le m (leapB y)
  have hy := dby_bd y (by omega) (by omega)
  go_enter Try.func16, Try.ntmps16
  go_wp2_with (go_at_call 15; refine (sDV_any _ _ _ _).mono ?_; rintro e w1 ⟨rfl, hw⟩; obtain ⟨c0, c1, c2, hz, hB⟩ := own3 hw)
  go_quiet ((go_at_call 28; exact quiet_left (l1B_any _ _ h1 (by omega))))
  go_wp2
  go_loopw [3, 4] (fun n b wr => ∃ k : Int, 1 ≤ k ∧ k ≤ m ∧ b = .int .i64 k ∧ n = .int .i64 (dby y + cum k (leapB y) + d - 1) ∧ wr.cell? ⟨w.heap.size, 0, none⟩ = some (.int .i64 y) ∧ wr.cell? ⟨w.heap.size, 1, none⟩ = some (.int .i64 m) ∧ wr.cell? ⟨w.heap.size, 2, none⟩ = some (.int .i64 d) ∧ w.heap.size < wr.heap.size ∧ Below w.heap.size w wr) (fun _ b _ => (m - intOf b).toNat)
  case atStart => exact ⟨1, by omega, by omega, rfl, congrArg (Value.int .i64) (by rw [cum_one]; first | omega | (simp only [IntKind.wrap_i64]; omega)), by simp [*], by simp [*], by simp [*], by simpa using hz, bel_drewN hB _⟩
  case round =>
    obtain ⟨k, hk1, hk2, rfl, rfl, c0, c1, c2, hz, hB⟩ := hrel
    have hb := cum_bd k (leapB y) (by omega) (by omega)
    have hd := dim_le k (leapB y)
    by_cases hlt : k < m
    · have hs := Lib.hid (cum_succ k (leapB y) (by omega) (by omega))
      have he := Lib.hid (show ml y k = dim k (leapB y) by rw [ml, if_pos ⟨h1, h2⟩])
      have hq := ml_le y k
      go_wp2_with (go_at_call 27; refine (sML_any _ _ _).mono ?_; rintro e w' ⟨rfl, hw⟩)
      go_roundw
      case rel => exact ⟨k + 1, by omega, by omega, rfl, congrArg (Value.int .i64) (by have e1 := hs.out; have e2 := he.out; omega), keep3 c0 c1 c2 hz hB hw⟩
      case measure => simp [intOf]; omega
    · obtain rfl : k = m := by omega
      go_wp2
      go_ret
      exact ⟨ret_int (by unfold num; omega), hB⟩
theorem iWD_f (y m d : Int) (w : World) (h : valB y m d = false) :
    Calls Try.prog 10 #[.agg #[.int .i64 y, .int .i64 m, .int .i64 d]] w fun e w' => e = .returned (.int .i64 0) ∧ Below w.heap.size w w' := by
  go_enter Try.func10, Try.ntmps10
  go_wp2_with (go_at_call 7; refine (iDV_any _ _ _ _).mono ?_; rintro e w1 ⟨rfl, hw⟩; obtain ⟨c0, c1, c2, hz, hB⟩ := own3 hw)
  go_ret
  exact ⟨ret_int rfl, hB⟩
theorem iWD_t (y m d : Int) (w : World) (h : valB y m d = true) :
    Calls Try.prog 10 #[.agg #[.int .i64 y, .int .i64 m, .int .i64 d]] w fun e w' => e = .returned (.int .i64 (num y m d % 7 + 1)) ∧ Below w.heap.size w w' := by
  have hn := num_bd h
  go_enter Try.func10, Try.ntmps10
  go_wp2_with (first | (go_at_call 7; refine (iDV_any _ _ _ _).mono ?_; rintro e w1 ⟨rfl, hw⟩; obtain ⟨c0, c1, c2, hz, hB⟩ := own3 hw) | (go_at_call 21; refine (iDN_t _ _ _ _ h).mono ?_; rintro e w2 ⟨rfl, hw2⟩))
  go_ret
  exact ⟨ret_int (by omega), bel_next hB hw2⟩
end Go.Proofs.Ytkeghnbckndgfaa
