/- The model's HourOn. -/
import Derived.Test.YtgbelpkhfaajoabHq
namespace Go.Proofs.Ytgbelpkhfaajoab
open Go Go.ChangeShapes Go.WideShapes Go.ChangeAt Go.RowKit
set_option linter.unusedSimpArgs false
set_option linter.unusedVariables false

set_option maxHeartbeats 4000000 in
theorem sHO0 (l e n : Int) (w : World) (hl : laB l = false) : Calls Try.prog 29 #[.int .i64 l, .agg #[.int .i64 e, .int .i64 n]] w (HoRet l e n w) := by
  unfold HoRet
  have HL := Lib.hid hl
  clear hl
  go_enter Try.func29, Try.ntmps29
  go_wp2_with fail
  go_loopw [5] (fun v wr => ∃ k : Nat, v = .int .i64 ((k : Int) - 12) ∧ k ≤ 24 ∧ Hid (∀ j : Int, -12 ≤ j → j < (k : Int) - 12 → hoP l e n j = false) ∧ wr.heap[w.heap.size]? = some (.cells #[.int .i64 e, .int .i64 n] 30) ∧ Below w.heap.size w wr) (fun v _ => (12 - intOf v).toNat)
  case atStart => exact ⟨0, rfl, by omega, Lib.hid (fun j j0 j1 => by omega), blk_new w _, bel1 _ _⟩
  case round =>
    obtain ⟨k, rfl, k1, HN, hCr, hBr⟩ := hrel
    by_cases hlt : k < 24
    · have hk : (k : Int) - 12 ≤ 11 := by omega
      have hk2 : (k : Int) - 12 < 12 := by omega
      go_wp2_with fail
      refine (sLn_f _ _ _ (.inl HL.out)).mono ?_; rintro e' w1 ⟨rfl, hw1⟩
      have hC1 := blk_next hCr hw1
      have hB1 := bel_next hBr hw1
      have hC2 := blk_old hC1 (.cells #[.int .i64 0, .int .i64 0] 30)
      have hB2 := hB1.alloc hB1.size (.cells #[.int .i64 0, .int .i64 0] 30)
      go_wp2_with fail
      go_roundw
      case rel => exact ⟨k + 1, by go_num, by omega, Lib.hid (fun j j0 j1 => by by_cases g : j < (k : Int) - 12; exact HN.out j j0 g; rw [show j = (k : Int) - 12 by omega]; exact hoP_f (.inl HL.out) _), hC2, hB2⟩
      case measure => simp [intOf]; omega
    · have hk2 : ¬ (k : Int) - 12 < 12 := by omega
      go_wp2_with fail
      go_ret
      exact ⟨12, rfl, .inr ⟨rfl, fun j j0 j1 => HN.out j j0 (by omega)⟩, hBr⟩
set_option maxHeartbeats 4000000 in
theorem sHO1 (l e n : Int) (w : World) (hl : laB l = true) (hv : svB e n = true) : Calls Try.prog 29 #[.int .i64 l, .agg #[.int .i64 e, .int .i64 n]] w (HoRet l e n w) := by
  unfold HoRet
  obtain ⟨he, hn⟩ := svB_iff.1 hv
  have h3 : inW e (-1000000) 1000000 = true := by unfold inW; simpa using he
  have h4 : inW n (-1000000) 1000000 = true := by unfold inW; simpa using hn
  have HL := Lib.hid hl
  clear hl
  have HE := Lib.hid h3
  clear h3
  have HF := Lib.hid h4
  clear h4
  clear hv
  go_enter Try.func29, Try.ntmps29
  go_wp2_with fail
  go_loopw [5] (fun v wr => ∃ k : Nat, v = .int .i64 ((k : Int) - 12) ∧ k ≤ 24 ∧ Hid (∀ j : Int, -12 ≤ j → j < (k : Int) - 12 → hoP l e n j = false) ∧ wr.heap[w.heap.size]? = some (.cells #[.int .i64 e, .int .i64 n] 30) ∧ Below w.heap.size w wr) (fun v _ => (12 - intOf v).toNat)
  case atStart => exact ⟨0, rfl, by omega, Lib.hid (fun j j0 j1 => by omega), blk_new w _, bel1 _ _⟩
  case round =>
    obtain ⟨k, rfl, k1, HN, hCr, hBr⟩ := hrel
    by_cases hlt : k < 24
    · have hk : (k : Int) - 12 ≤ 11 := by omega
      have hk2 : (k : Int) - 12 < 12 := by omega
      obtain ⟨q, hq⟩ : ∃ q, onW (lnE l ((k : Int) - 12)) (lnN ((k : Int) - 12)) e n = q := ⟨_, rfl⟩
      have HPK : Hid (hoP l e n ((k : Int) - 12) = q) := by show _ = _; rw [hoP_W HL.out he hn]; exact hq
      have HP := Lib.hid hq
      clear hq
      cases q
      · have hh : hrB ((k : Int) - 12) = true := hrB_iff.2 (by omega)
        have HH := Lib.hid hh
        clear hh
        go_wp2_with fail
        refine (sLn_t _ _ _ HL.out HH.out).mono ?_; rintro e' w1 ⟨rfl, hw1⟩
        have hC1 := blk_next hCr hw1
        have hB1 := bel_next hBr hw1
        have zw := hB1.size
        have hC2 := blk_old hC1 (.cells #[.int .i64 (lnE l ((k : Int) - 12)), .int .i64 (lnN ((k : Int) - 12))] 30)
        have hB2 := hB1.alloc hB1.size (.cells #[.int .i64 (lnE l ((k : Int) - 12)), .int .i64 (lnN ((k : Int) - 12))] 30)
        obtain ⟨cC2_0, cC2_1, _, _, zC2⟩ := blk2 hC2
        go_wp2_with fail
        refine (sOn_is _ HP.out).mono ?_; rintro e' w3 ⟨rfl, hw3⟩
        have hC3 := blk_next hC2 hw3
        have hB3 := bel_next hB2 hw3
        obtain ⟨cC3_0, cC3_1, _, _, zC3⟩ := blk2 hC3
        go_wp2_with fail
        go_roundw
        case rel => exact ⟨k + 1, by go_num, by omega, Lib.hid (fun j j0 j1 => by by_cases g : j < (k : Int) - 12; exact HN.out j j0 g; rw [show j = (k : Int) - 12 by omega]; exact HPK.out), hC3, hB3⟩
        case measure => simp [intOf]; omega
      · have hh : hrB ((k : Int) - 12) = true := hrB_iff.2 (by omega)
        have HH := Lib.hid hh
        clear hh
        go_wp2_with fail
        refine (sLn_t _ _ _ HL.out HH.out).mono ?_; rintro e' w1 ⟨rfl, hw1⟩
        have hC1 := blk_next hCr hw1
        have hB1 := bel_next hBr hw1
        have zw := hB1.size
        have hC2 := blk_old hC1 (.cells #[.int .i64 (lnE l ((k : Int) - 12)), .int .i64 (lnN ((k : Int) - 12))] 30)
        have hB2 := hB1.alloc hB1.size (.cells #[.int .i64 (lnE l ((k : Int) - 12)), .int .i64 (lnN ((k : Int) - 12))] 30)
        obtain ⟨cC2_0, cC2_1, _, _, zC2⟩ := blk2 hC2
        go_wp2_with fail
        refine (sOn_is _ HP.out).mono ?_; rintro e' w3 ⟨rfl, hw3⟩
        have hC3 := blk_next hC2 hw3
        have hB3 := bel_next hB2 hw3
        obtain ⟨cC3_0, cC3_1, _, _, zC3⟩ := blk2 hC3
        go_wp2_with fail
        refine (sInW_is _ HE.out).mono ?_; rintro e' w' ⟨rfl, rfl⟩
        go_wp2_with fail
        refine (sInW_is _ HF.out).mono ?_; rintro e' w' ⟨rfl, rfl⟩
        go_wp2_with fail
        go_ret
        exact ⟨_, rfl, .inl ⟨by omega, by omega, HPK.out, fun j j0 j1 => HN.out j j0 j1⟩, hB3⟩
    · have hk2 : ¬ (k : Int) - 12 < 12 := by omega
      go_wp2_with fail
      go_ret
      exact ⟨12, rfl, .inr ⟨rfl, fun j j0 j1 => HN.out j j0 (by omega)⟩, hBr⟩
set_option maxHeartbeats 4000000 in
theorem sHO2 (l e n : Int) (w : World) (hl : laB l = true) (hv : svB e n = false) (h3 : inW e (-1000000) 1000000 = false) : Calls Try.prog 29 #[.int .i64 l, .agg #[.int .i64 e, .int .i64 n]] w (HoRet l e n w) := by
  unfold HoRet
  have HL := Lib.hid hl
  clear hl
  have HE := Lib.hid h3
  clear h3
  have HV := Lib.hid hv
  clear hv
  go_enter Try.func29, Try.ntmps29
  go_wp2_with fail
  go_loopw [5] (fun v wr => ∃ k : Nat, v = .int .i64 ((k : Int) - 12) ∧ k ≤ 24 ∧ Hid (∀ j : Int, -12 ≤ j → j < (k : Int) - 12 → hoP l e n j = false) ∧ wr.heap[w.heap.size]? = some (.cells #[.int .i64 e, .int .i64 n] 30) ∧ Below w.heap.size w wr) (fun v _ => (12 - intOf v).toNat)
  case atStart => exact ⟨0, rfl, by omega, Lib.hid (fun j j0 j1 => by omega), blk_new w _, bel1 _ _⟩
  case round =>
    obtain ⟨k, rfl, k1, HN, hCr, hBr⟩ := hrel
    by_cases hlt : k < 24
    · have hk : (k : Int) - 12 ≤ 11 := by omega
      have hk2 : (k : Int) - 12 < 12 := by omega
      obtain ⟨q, hq⟩ : ∃ q, onW (lnE l ((k : Int) - 12)) (lnN ((k : Int) - 12)) e n = q := ⟨_, rfl⟩
      have HP := Lib.hid hq
      clear hq
      cases q
      · have hh : hrB ((k : Int) - 12) = true := hrB_iff.2 (by omega)
        have HH := Lib.hid hh
        clear hh
        go_wp2_with fail
        refine (sLn_t _ _ _ HL.out HH.out).mono ?_; rintro e' w1 ⟨rfl, hw1⟩
        have hC1 := blk_next hCr hw1
        have hB1 := bel_next hBr hw1
        have zw := hB1.size
        have hC2 := blk_old hC1 (.cells #[.int .i64 (lnE l ((k : Int) - 12)), .int .i64 (lnN ((k : Int) - 12))] 30)
        have hB2 := hB1.alloc hB1.size (.cells #[.int .i64 (lnE l ((k : Int) - 12)), .int .i64 (lnN ((k : Int) - 12))] 30)
        obtain ⟨cC2_0, cC2_1, _, _, zC2⟩ := blk2 hC2
        go_wp2_with fail
        refine (sOn_is _ HP.out).mono ?_; rintro e' w3 ⟨rfl, hw3⟩
        have hC3 := blk_next hC2 hw3
        have hB3 := bel_next hB2 hw3
        obtain ⟨cC3_0, cC3_1, _, _, zC3⟩ := blk2 hC3
        go_wp2_with fail
        go_roundw
        case rel => exact ⟨k + 1, by go_num, by omega, Lib.hid (fun j j0 j1 => by by_cases g : j < (k : Int) - 12; exact HN.out j j0 g; rw [show j = (k : Int) - 12 by omega]; exact hoP_f (.inr HV.out) _), hC3, hB3⟩
        case measure => simp [intOf]; omega
      · have hh : hrB ((k : Int) - 12) = true := hrB_iff.2 (by omega)
        have HH := Lib.hid hh
        clear hh
        go_wp2_with fail
        refine (sLn_t _ _ _ HL.out HH.out).mono ?_; rintro e' w1 ⟨rfl, hw1⟩
        have hC1 := blk_next hCr hw1
        have hB1 := bel_next hBr hw1
        have zw := hB1.size
        have hC2 := blk_old hC1 (.cells #[.int .i64 (lnE l ((k : Int) - 12)), .int .i64 (lnN ((k : Int) - 12))] 30)
        have hB2 := hB1.alloc hB1.size (.cells #[.int .i64 (lnE l ((k : Int) - 12)), .int .i64 (lnN ((k : Int) - 12))] 30)
        obtain ⟨cC2_0, cC2_1, _, _, zC2⟩ := blk2 hC2
        go_wp2_with fail
        refine (sOn_is _ HP.out).mono ?_; rintro e' w3 ⟨rfl, hw3⟩
        have hC3 := blk_next hC2 hw3
        have hB3 := bel_next hB2 hw3
        obtain ⟨cC3_0, cC3_1, _, _, zC3⟩ := blk2 hC3
        go_wp2_with fail
        refine (sInW_is _ HE.out).mono ?_; rintro e' w' ⟨rfl, rfl⟩
        go_wp2_with fail
        go_roundw
        case rel => exact ⟨k + 1, by go_num, by omega, Lib.hid (fun j j0 j1 => by by_cases g : j < (k : Int) - 12; exact HN.out j j0 g; rw [show j = (k : Int) - 12 by omega]; exact hoP_f (.inr HV.out) _), hC3, hB3⟩
        case measure => simp [intOf]; omega
    · have hk2 : ¬ (k : Int) - 12 < 12 := by omega
      go_wp2_with fail
      go_ret
      exact ⟨12, rfl, .inr ⟨rfl, fun j j0 j1 => HN.out j j0 (by omega)⟩, hBr⟩
set_option maxHeartbeats 4000000 in
theorem sHO3 (l e n : Int) (w : World) (hl : laB l = true) (hv : svB e n = false) (h3 : inW e (-1000000) 1000000 = true) : Calls Try.prog 29 #[.int .i64 l, .agg #[.int .i64 e, .int .i64 n]] w (HoRet l e n w) := by
  unfold HoRet
  have h4 : inW n (-1000000) 1000000 = false := by unfold svB at hv; rw [h3] at hv; simpa using hv
  have HL := Lib.hid hl
  clear hl
  have HE := Lib.hid h3
  clear h3
  have HF := Lib.hid h4
  clear h4
  have HV := Lib.hid hv
  clear hv
  go_enter Try.func29, Try.ntmps29
  go_wp2_with fail
  go_loopw [5] (fun v wr => ∃ k : Nat, v = .int .i64 ((k : Int) - 12) ∧ k ≤ 24 ∧ Hid (∀ j : Int, -12 ≤ j → j < (k : Int) - 12 → hoP l e n j = false) ∧ wr.heap[w.heap.size]? = some (.cells #[.int .i64 e, .int .i64 n] 30) ∧ Below w.heap.size w wr) (fun v _ => (12 - intOf v).toNat)
  case atStart => exact ⟨0, rfl, by omega, Lib.hid (fun j j0 j1 => by omega), blk_new w _, bel1 _ _⟩
  case round =>
    obtain ⟨k, rfl, k1, HN, hCr, hBr⟩ := hrel
    by_cases hlt : k < 24
    · have hk : (k : Int) - 12 ≤ 11 := by omega
      have hk2 : (k : Int) - 12 < 12 := by omega
      obtain ⟨q, hq⟩ : ∃ q, onW (lnE l ((k : Int) - 12)) (lnN ((k : Int) - 12)) e n = q := ⟨_, rfl⟩
      have HP := Lib.hid hq
      clear hq
      cases q
      · have hh : hrB ((k : Int) - 12) = true := hrB_iff.2 (by omega)
        have HH := Lib.hid hh
        clear hh
        go_wp2_with fail
        refine (sLn_t _ _ _ HL.out HH.out).mono ?_; rintro e' w1 ⟨rfl, hw1⟩
        have hC1 := blk_next hCr hw1
        have hB1 := bel_next hBr hw1
        have zw := hB1.size
        have hC2 := blk_old hC1 (.cells #[.int .i64 (lnE l ((k : Int) - 12)), .int .i64 (lnN ((k : Int) - 12))] 30)
        have hB2 := hB1.alloc hB1.size (.cells #[.int .i64 (lnE l ((k : Int) - 12)), .int .i64 (lnN ((k : Int) - 12))] 30)
        obtain ⟨cC2_0, cC2_1, _, _, zC2⟩ := blk2 hC2
        go_wp2_with fail
        refine (sOn_is _ HP.out).mono ?_; rintro e' w3 ⟨rfl, hw3⟩
        have hC3 := blk_next hC2 hw3
        have hB3 := bel_next hB2 hw3
        obtain ⟨cC3_0, cC3_1, _, _, zC3⟩ := blk2 hC3
        go_wp2_with fail
        go_roundw
        case rel => exact ⟨k + 1, by go_num, by omega, Lib.hid (fun j j0 j1 => by by_cases g : j < (k : Int) - 12; exact HN.out j j0 g; rw [show j = (k : Int) - 12 by omega]; exact hoP_f (.inr HV.out) _), hC3, hB3⟩
        case measure => simp [intOf]; omega
      · have hh : hrB ((k : Int) - 12) = true := hrB_iff.2 (by omega)
        have HH := Lib.hid hh
        clear hh
        go_wp2_with fail
        refine (sLn_t _ _ _ HL.out HH.out).mono ?_; rintro e' w1 ⟨rfl, hw1⟩
        have hC1 := blk_next hCr hw1
        have hB1 := bel_next hBr hw1
        have zw := hB1.size
        have hC2 := blk_old hC1 (.cells #[.int .i64 (lnE l ((k : Int) - 12)), .int .i64 (lnN ((k : Int) - 12))] 30)
        have hB2 := hB1.alloc hB1.size (.cells #[.int .i64 (lnE l ((k : Int) - 12)), .int .i64 (lnN ((k : Int) - 12))] 30)
        obtain ⟨cC2_0, cC2_1, _, _, zC2⟩ := blk2 hC2
        go_wp2_with fail
        refine (sOn_is _ HP.out).mono ?_; rintro e' w3 ⟨rfl, hw3⟩
        have hC3 := blk_next hC2 hw3
        have hB3 := bel_next hB2 hw3
        obtain ⟨cC3_0, cC3_1, _, _, zC3⟩ := blk2 hC3
        go_wp2_with fail
        refine (sInW_is _ HE.out).mono ?_; rintro e' w' ⟨rfl, rfl⟩
        go_wp2_with fail
        refine (sInW_is _ HF.out).mono ?_; rintro e' w' ⟨rfl, rfl⟩
        go_wp2_with fail
        go_roundw
        case rel => exact ⟨k + 1, by go_num, by omega, Lib.hid (fun j j0 j1 => by by_cases g : j < (k : Int) - 12; exact HN.out j j0 g; rw [show j = (k : Int) - 12 by omega]; exact hoP_f (.inr HV.out) _), hC3, hB3⟩
        case measure => simp [intOf]; omega
    · have hk2 : ¬ (k : Int) - 12 < 12 := by omega
      go_wp2_with fail
      go_ret
      exact ⟨12, rfl, .inr ⟨rfl, fun j j0 j1 => HN.out j j0 (by omega)⟩, hBr⟩
set_option maxHeartbeats 1000000 in
theorem sHourOn_any (l e n : Int) (w : World) : Calls Try.prog 29 #[.int .i64 l, .agg #[.int .i64 e, .int .i64 n]] w (HoRet l e n w) := by
  cases hl : laB l
  · exact sHO0 l e n w hl
  · cases hv : svB e n
    · cases h3 : inW e (-1000000) 1000000
      · exact sHO2 l e n w hl hv h3
      · exact sHO3 l e n w hl hv h3
    · exact sHO1 l e n w hl hv
end Go.Proofs.Ytgbelpkhfaajoab
