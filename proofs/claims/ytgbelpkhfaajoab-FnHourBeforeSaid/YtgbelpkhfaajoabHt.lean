/- The model's HourBefore. -/
import Derived.Test.YtgbelpkhfaajoabHq
namespace Go.Proofs.Ytgbelpkhfaajoab
open Go Go.ChangeShapes Go.WideShapes Go.ChangeAt Go.RowKit
set_option linter.unusedSimpArgs false
set_option linter.unusedVariables false

theorem half_lt {a b : Int} : halfI a b < 0 ↔ (a = 0 ∧ b = 0) := by
  have h1 := half_cases a b
  have h2 := @half_nil a b
  omega
theorem goB_wv {a b : Int} (h : goB a b = true) : wvB a b = true := by unfold goB at h; simp at h; exact h.1
theorem goB_nwv {a b : Int} (h : wvB a b = false) : goB a b = false := by unfold goB; rw [h]; rfl
theorem goB_half {a b : Int} (hw : wvB a b = true) (h : halfI a b < 0) : goB a b = false := by
  obtain ⟨h1, h2⟩ := half_lt.1 h
  unfold goB; simp [h1, h2]
theorem goB_mk {a b : Int} (hw : wvB a b = true) (h : ¬ halfI a b < 0) : goB a b = true := by
  unfold goB; rw [hw, Bool.true_and, Bool.not_eq_true']
  exact decide_eq_false (fun g => h (half_lt.2 g))
theorem nx_hr (h : Int) : hrB (nxH h) = true := hrB_iff.2 (by unfold nxH; omega)
set_option maxHeartbeats 16000000 in
theorem sHourBefore_any (l e n : Int) (w : World) : Calls Try.prog 32 #[.int .i64 l, .agg #[.int .i64 e, .int .i64 n]] w (HbRet l e n w) := by
  unfold HbRet
  cases hw : wvB e n
  · have hg := goB_nwv hw
    have HW := Lib.hid hw
    clear hw
    have HG := Lib.hid hg
    clear hg
    go_enter Try.func32, Try.ntmps32
    go_wp2_with fail
    refine (sWVH_is _ HW.out).mono ?_; rintro e' w1 ⟨rfl, hw1⟩
    obtain ⟨hC1, hB1⟩ := ownb hw1
    obtain ⟨cC1_0, cC1_1, _, _, zC1⟩ := blk2 hC1
    go_wp2_with fail
    go_ret
    exact ⟨12, rfl, HourIs.none (hbP_f (.inr HG.out)), hB1⟩
  · obtain ⟨x, hx⟩ : ∃ x, halfI e n = x := ⟨_, rfl⟩
    by_cases hlt0 : x < 0
    · have hg := goB_half hw (by omega)
      have HW := Lib.hid hw
      clear hw
      have HG := Lib.hid hg
      clear hg
      have HX := Lib.hid hx
      clear hx
      go_enter Try.func32, Try.ntmps32
      go_wp2_with fail
      refine (sWVH_is _ HW.out).mono ?_; rintro e' w1 ⟨rfl, hw1⟩
      obtain ⟨hC1, hB1⟩ := ownb hw1
      obtain ⟨cC1_0, cC1_1, _, _, zC1⟩ := blk2 hC1
      go_wp2_with fail
      refine (sHalfH_is _ HX.out).mono ?_; rintro e' w2 ⟨rfl, hw2⟩
      have hC2 := blk_next hC1 hw2
      have hB2 := bel_next hB1 hw2
      obtain ⟨cC2_0, cC2_1, _, _, zC2⟩ := blk2 hC2
      go_wp2_with fail
      go_ret
      exact ⟨12, rfl, HourIs.none (hbP_f (.inr HG.out)), hB2⟩
    · have hg := goB_mk hw (by omega)
      have HW := Lib.hid hw
      clear hw
      have HG := Lib.hid hg
      clear hg
      have HX := Lib.hid hx
      clear hx
      cases hl : laB l
      · have HL := Lib.hid hl
        clear hl
        go_enter Try.func32, Try.ntmps32
        go_wp2_with fail
        refine (sWVH_is _ HW.out).mono ?_; rintro e' w1 ⟨rfl, hw1⟩
        obtain ⟨hC1, hB1⟩ := ownb hw1
        obtain ⟨cC1_0, cC1_1, _, _, zC1⟩ := blk2 hC1
        go_wp2_with fail
        refine (sHalfH_is _ HX.out).mono ?_; rintro e' w2 ⟨rfl, hw2⟩
        have hC2 := blk_next hC1 hw2
        have hB2 := bel_next hB1 hw2
        obtain ⟨cC2_0, cC2_1, _, _, zC2⟩ := blk2 hC2
        go_wp2_with fail
        refine (sLnIn_is _ HL.out).mono ?_; rintro e' w' ⟨rfl, rfl⟩
        go_wp2_with fail
        go_ret
        exact ⟨12, rfl, HourIs.none (hbP_f (.inl HL.out)), hB2⟩
      · have HL := Lib.hid hl
        clear hl
        go_enter Try.func32, Try.ntmps32
        go_wp2_with fail
        refine (sWVH_is _ HW.out).mono ?_; rintro e' w1 ⟨rfl, hw1⟩
        obtain ⟨hC1, hB1⟩ := ownb hw1
        obtain ⟨cC1_0, cC1_1, _, _, zC1⟩ := blk2 hC1
        go_wp2_with fail
        refine (sHalfH_is _ HX.out).mono ?_; rintro e' w2 ⟨rfl, hw2⟩
        have hC2 := blk_next hC1 hw2
        have hB2 := bel_next hB1 hw2
        obtain ⟨cC2_0, cC2_1, _, _, zC2⟩ := blk2 hC2
        go_wp2_with fail
        refine (sLnIn_is _ HL.out).mono ?_; rintro e' w' ⟨rfl, rfl⟩
        go_wp2_with fail
        go_loopw [5] (fun v wr => ∃ k : Nat, v = .int .i64 ((k : Int) - 12) ∧ k ≤ 24 ∧ Hid (∀ j : Int, -12 ≤ j → j < (k : Int) - 12 → hbP l e n j = false) ∧ wr.heap[w.heap.size]? = some (.cells #[.int .i64 e, .int .i64 n] 30) ∧ Below w.heap.size w wr) (fun v _ => (12 - intOf v).toNat)
        case atStart => exact ⟨0, rfl, by omega, Lib.hid (fun j j0 j1 => by omega), hC2, hB2⟩
        case round =>
          obtain ⟨k, rfl, k1, HN, hCr, hBr⟩ := hrel
          by_cases hlt : k < 24
          · have hk : (k : Int) - 12 ≤ 11 := by omega
            have hk2 : (k : Int) - 12 < 12 := by omega
            have hW : hbP l e n ((k : Int) - 12) = hbW (lnE l ((k : Int) - 12)) (lnN ((k : Int) - 12)) (lnE l (nxH ((k : Int) - 12))) (lnN (nxH ((k : Int) - 12))) e n := hbP_W HL.out HG.out
            obtain ⟨q, hq⟩ : ∃ q, onW (lnE l ((k : Int) - 12)) (lnN ((k : Int) - 12)) e n = q := ⟨_, rfl⟩
            obtain ⟨u, hu⟩ : ∃ u, crossW (lnE l ((k : Int) - 12)) (lnN ((k : Int) - 12)) e n = u := ⟨_, rfl⟩
            obtain ⟨v, hv⟩ : ∃ v, crossW e n (lnE l (nxH ((k : Int) - 12))) (lnN (nxH ((k : Int) - 12))) = v := ⟨_, rfl⟩
            have hW2 : hbP l e n ((k : Int) - 12) = (q || (decide (u < 0) && decide (v < 0))) := by rw [hW]; unfold hbW cxB; rw [hq, hu, hv]
            clear hW
            have HP := Lib.hid hq
            clear hq
            have HU := Lib.hid hu
            clear hu
            have HV := Lib.hid hv
            clear hv
            cases q
            · by_cases g1 : u < 0
              · by_cases g2 : v < 0
                · have HPK : Hid (hbP l e n ((k : Int) - 12) = true) := by show _ = _; rw [hW2, decide_eq_true g1, decide_eq_true g2]; rfl
                  clear hW2
                  have hh : hrB ((k : Int) - 12) = true := hrB_iff.2 (by omega)
                  have HH := Lib.hid hh
                  clear hh
                  have HN2 := Lib.hid (nx_hr ((k : Int) - 12))
                  go_wp2_with fail
                  refine (sLn_t _ _ _ HL.out HH.out).mono ?_; rintro e' w3 ⟨rfl, hw3⟩
                  have hC3 := blk_next hCr hw3
                  have hB3 := bel_next hBr hw3
                  have zw := hB3.size
                  have hL4 := blk_new w3 (.cells #[.int .i64 (lnE l ((k : Int) - 12)), .int .i64 (lnN ((k : Int) - 12))] 30)
                  have hC4 := blk_old hC3 (.cells #[.int .i64 (lnE l ((k : Int) - 12)), .int .i64 (lnN ((k : Int) - 12))] 30)
                  have hB4 := hB3.alloc hB3.size (.cells #[.int .i64 (lnE l ((k : Int) - 12)), .int .i64 (lnN ((k : Int) - 12))] 30)
                  go_wp2_with fail
                  refine (sModH_any _ _ (by omega) (by omega)).mono ?_; rintro e' w' ⟨rfl, rfl⟩
                  go_wp2_with fail
                  refine (sLn_t _ (nxH ((k : Int) - 12)) _ HL.out HN2.out).mono ?_; rintro e' w5 ⟨rfl, hw5⟩
                  have hL5 := blk_next hL4 hw5
                  have hC5 := blk_next hC4 hw5
                  have hB5 := bel_next hB4 hw5
                  have zw5 := hB5.size
                  have hN6 := blk_new w5 (.cells #[.int .i64 (lnE l (nxH ((k : Int) - 12))), .int .i64 (lnN (nxH ((k : Int) - 12)))] 30)
                  have hL6 := blk_old hL5 (.cells #[.int .i64 (lnE l (nxH ((k : Int) - 12))), .int .i64 (lnN (nxH ((k : Int) - 12)))] 30)
                  have hC6 := blk_old hC5 (.cells #[.int .i64 (lnE l (nxH ((k : Int) - 12))), .int .i64 (lnN (nxH ((k : Int) - 12)))] 30)
                  have hB6 := hB5.alloc hB5.size (.cells #[.int .i64 (lnE l (nxH ((k : Int) - 12))), .int .i64 (lnN (nxH ((k : Int) - 12)))] 30)
                  obtain ⟨cL6_0, cL6_1, fL6_0, fL6_1, zL6⟩ := blk2 hL6
                  obtain ⟨cC6_0, cC6_1, fC6_0, fC6_1, zC6⟩ := blk2 hC6
                  obtain ⟨cN6_0, cN6_1, fN6_0, fN6_1, zN6⟩ := blk2 hN6
                  go_wp2_with fail
                  refine (sOn_is _ HP.out).mono ?_; rintro e' w7 ⟨rfl, hw7⟩
                  have hL7 := blk_next hL6 hw7
                  have hC7 := blk_next hC6 hw7
                  have hN7 := blk_next hN6 hw7
                  have hB7 := bel_next hB6 hw7
                  obtain ⟨cL7_0, cL7_1, fL7_0, fL7_1, zL7⟩ := blk2 hL7
                  obtain ⟨cC7_0, cC7_1, fC7_0, fC7_1, zC7⟩ := blk2 hC7
                  obtain ⟨cN7_0, cN7_1, fN7_0, fN7_1, zN7⟩ := blk2 hN7
                  go_wp2_with fail
                  refine (sCroH_is _ HU.out).mono ?_; rintro e' w8 ⟨rfl, hw8⟩
                  have hL8 := blk_next hL7 hw8
                  have hC8 := blk_next hC7 hw8
                  have hN8 := blk_next hN7 hw8
                  have hB8 := bel_next hB7 hw8
                  obtain ⟨cL8_0, cL8_1, fL8_0, fL8_1, zL8⟩ := blk2 hL8
                  obtain ⟨cC8_0, cC8_1, fC8_0, fC8_1, zC8⟩ := blk2 hC8
                  obtain ⟨cN8_0, cN8_1, fN8_0, fN8_1, zN8⟩ := blk2 hN8
                  go_wp2_with fail
                  refine (sCroH_is _ HV.out).mono ?_; rintro e' w9 ⟨rfl, hw9⟩
                  have hL9 := blk_next hL8 hw9
                  have hC9 := blk_next hC8 hw9
                  have hN9 := blk_next hN8 hw9
                  have hB9 := bel_next hB8 hw9
                  obtain ⟨cL9_0, cL9_1, fL9_0, fL9_1, zL9⟩ := blk2 hL9
                  obtain ⟨cC9_0, cC9_1, fC9_0, fC9_1, zC9⟩ := blk2 hC9
                  obtain ⟨cN9_0, cN9_1, fN9_0, fN9_1, zN9⟩ := blk2 hN9
                  go_wp2_with fail
                  go_ret
                  exact ⟨_, rfl, .inl ⟨by omega, by omega, HPK.out, fun j j0 j1 => HN.out j j0 j1⟩, hB9⟩
                · have HPK : Hid (hbP l e n ((k : Int) - 12) = false) := by show _ = _; rw [hW2, decide_eq_true g1, decide_eq_false g2]; rfl
                  clear hW2
                  have hh : hrB ((k : Int) - 12) = true := hrB_iff.2 (by omega)
                  have HH := Lib.hid hh
                  clear hh
                  have HN2 := Lib.hid (nx_hr ((k : Int) - 12))
                  go_wp2_with fail
                  refine (sLn_t _ _ _ HL.out HH.out).mono ?_; rintro e' w3 ⟨rfl, hw3⟩
                  have hC3 := blk_next hCr hw3
                  have hB3 := bel_next hBr hw3
                  have zw := hB3.size
                  have hL4 := blk_new w3 (.cells #[.int .i64 (lnE l ((k : Int) - 12)), .int .i64 (lnN ((k : Int) - 12))] 30)
                  have hC4 := blk_old hC3 (.cells #[.int .i64 (lnE l ((k : Int) - 12)), .int .i64 (lnN ((k : Int) - 12))] 30)
                  have hB4 := hB3.alloc hB3.size (.cells #[.int .i64 (lnE l ((k : Int) - 12)), .int .i64 (lnN ((k : Int) - 12))] 30)
                  go_wp2_with fail
                  refine (sModH_any _ _ (by omega) (by omega)).mono ?_; rintro e' w' ⟨rfl, rfl⟩
                  go_wp2_with fail
                  refine (sLn_t _ (nxH ((k : Int) - 12)) _ HL.out HN2.out).mono ?_; rintro e' w5 ⟨rfl, hw5⟩
                  have hL5 := blk_next hL4 hw5
                  have hC5 := blk_next hC4 hw5
                  have hB5 := bel_next hB4 hw5
                  have zw5 := hB5.size
                  have hN6 := blk_new w5 (.cells #[.int .i64 (lnE l (nxH ((k : Int) - 12))), .int .i64 (lnN (nxH ((k : Int) - 12)))] 30)
                  have hL6 := blk_old hL5 (.cells #[.int .i64 (lnE l (nxH ((k : Int) - 12))), .int .i64 (lnN (nxH ((k : Int) - 12)))] 30)
                  have hC6 := blk_old hC5 (.cells #[.int .i64 (lnE l (nxH ((k : Int) - 12))), .int .i64 (lnN (nxH ((k : Int) - 12)))] 30)
                  have hB6 := hB5.alloc hB5.size (.cells #[.int .i64 (lnE l (nxH ((k : Int) - 12))), .int .i64 (lnN (nxH ((k : Int) - 12)))] 30)
                  obtain ⟨cL6_0, cL6_1, fL6_0, fL6_1, zL6⟩ := blk2 hL6
                  obtain ⟨cC6_0, cC6_1, fC6_0, fC6_1, zC6⟩ := blk2 hC6
                  obtain ⟨cN6_0, cN6_1, fN6_0, fN6_1, zN6⟩ := blk2 hN6
                  go_wp2_with fail
                  refine (sOn_is _ HP.out).mono ?_; rintro e' w7 ⟨rfl, hw7⟩
                  have hL7 := blk_next hL6 hw7
                  have hC7 := blk_next hC6 hw7
                  have hN7 := blk_next hN6 hw7
                  have hB7 := bel_next hB6 hw7
                  obtain ⟨cL7_0, cL7_1, fL7_0, fL7_1, zL7⟩ := blk2 hL7
                  obtain ⟨cC7_0, cC7_1, fC7_0, fC7_1, zC7⟩ := blk2 hC7
                  obtain ⟨cN7_0, cN7_1, fN7_0, fN7_1, zN7⟩ := blk2 hN7
                  go_wp2_with fail
                  refine (sCroH_is _ HU.out).mono ?_; rintro e' w8 ⟨rfl, hw8⟩
                  have hL8 := blk_next hL7 hw8
                  have hC8 := blk_next hC7 hw8
                  have hN8 := blk_next hN7 hw8
                  have hB8 := bel_next hB7 hw8
                  obtain ⟨cL8_0, cL8_1, fL8_0, fL8_1, zL8⟩ := blk2 hL8
                  obtain ⟨cC8_0, cC8_1, fC8_0, fC8_1, zC8⟩ := blk2 hC8
                  obtain ⟨cN8_0, cN8_1, fN8_0, fN8_1, zN8⟩ := blk2 hN8
                  go_wp2_with fail
                  refine (sCroH_is _ HV.out).mono ?_; rintro e' w9 ⟨rfl, hw9⟩
                  have hL9 := blk_next hL8 hw9
                  have hC9 := blk_next hC8 hw9
                  have hN9 := blk_next hN8 hw9
                  have hB9 := bel_next hB8 hw9
                  obtain ⟨cL9_0, cL9_1, fL9_0, fL9_1, zL9⟩ := blk2 hL9
                  obtain ⟨cC9_0, cC9_1, fC9_0, fC9_1, zC9⟩ := blk2 hC9
                  obtain ⟨cN9_0, cN9_1, fN9_0, fN9_1, zN9⟩ := blk2 hN9
                  go_wp2_with fail
                  go_roundw
                  case rel => exact ⟨k + 1, by go_num, by omega, Lib.hid (fun j j0 j1 => by by_cases g : j < (k : Int) - 12; exact HN.out j j0 g; rw [show j = (k : Int) - 12 by omega]; exact HPK.out), hC9, hB9⟩
                  case measure => simp [intOf]; omega
              · have HPK : Hid (hbP l e n ((k : Int) - 12) = false) := by show _ = _; rw [hW2, decide_eq_false g1]; rfl
                clear hW2
                have hh : hrB ((k : Int) - 12) = true := hrB_iff.2 (by omega)
                have HH := Lib.hid hh
                clear hh
                have HN2 := Lib.hid (nx_hr ((k : Int) - 12))
                go_wp2_with fail
                refine (sLn_t _ _ _ HL.out HH.out).mono ?_; rintro e' w3 ⟨rfl, hw3⟩
                have hC3 := blk_next hCr hw3
                have hB3 := bel_next hBr hw3
                have zw := hB3.size
                have hL4 := blk_new w3 (.cells #[.int .i64 (lnE l ((k : Int) - 12)), .int .i64 (lnN ((k : Int) - 12))] 30)
                have hC4 := blk_old hC3 (.cells #[.int .i64 (lnE l ((k : Int) - 12)), .int .i64 (lnN ((k : Int) - 12))] 30)
                have hB4 := hB3.alloc hB3.size (.cells #[.int .i64 (lnE l ((k : Int) - 12)), .int .i64 (lnN ((k : Int) - 12))] 30)
                go_wp2_with fail
                refine (sModH_any _ _ (by omega) (by omega)).mono ?_; rintro e' w' ⟨rfl, rfl⟩
                go_wp2_with fail
                refine (sLn_t _ (nxH ((k : Int) - 12)) _ HL.out HN2.out).mono ?_; rintro e' w5 ⟨rfl, hw5⟩
                have hL5 := blk_next hL4 hw5
                have hC5 := blk_next hC4 hw5
                have hB5 := bel_next hB4 hw5
                have zw5 := hB5.size
                have hN6 := blk_new w5 (.cells #[.int .i64 (lnE l (nxH ((k : Int) - 12))), .int .i64 (lnN (nxH ((k : Int) - 12)))] 30)
                have hL6 := blk_old hL5 (.cells #[.int .i64 (lnE l (nxH ((k : Int) - 12))), .int .i64 (lnN (nxH ((k : Int) - 12)))] 30)
                have hC6 := blk_old hC5 (.cells #[.int .i64 (lnE l (nxH ((k : Int) - 12))), .int .i64 (lnN (nxH ((k : Int) - 12)))] 30)
                have hB6 := hB5.alloc hB5.size (.cells #[.int .i64 (lnE l (nxH ((k : Int) - 12))), .int .i64 (lnN (nxH ((k : Int) - 12)))] 30)
                obtain ⟨cL6_0, cL6_1, fL6_0, fL6_1, zL6⟩ := blk2 hL6
                obtain ⟨cC6_0, cC6_1, fC6_0, fC6_1, zC6⟩ := blk2 hC6
                obtain ⟨cN6_0, cN6_1, fN6_0, fN6_1, zN6⟩ := blk2 hN6
                go_wp2_with fail
                refine (sOn_is _ HP.out).mono ?_; rintro e' w7 ⟨rfl, hw7⟩
                have hL7 := blk_next hL6 hw7
                have hC7 := blk_next hC6 hw7
                have hN7 := blk_next hN6 hw7
                have hB7 := bel_next hB6 hw7
                obtain ⟨cL7_0, cL7_1, fL7_0, fL7_1, zL7⟩ := blk2 hL7
                obtain ⟨cC7_0, cC7_1, fC7_0, fC7_1, zC7⟩ := blk2 hC7
                obtain ⟨cN7_0, cN7_1, fN7_0, fN7_1, zN7⟩ := blk2 hN7
                go_wp2_with fail
                refine (sCroH_is _ HU.out).mono ?_; rintro e' w8 ⟨rfl, hw8⟩
                have hL8 := blk_next hL7 hw8
                have hC8 := blk_next hC7 hw8
                have hN8 := blk_next hN7 hw8
                have hB8 := bel_next hB7 hw8
                obtain ⟨cL8_0, cL8_1, fL8_0, fL8_1, zL8⟩ := blk2 hL8
                obtain ⟨cC8_0, cC8_1, fC8_0, fC8_1, zC8⟩ := blk2 hC8
                obtain ⟨cN8_0, cN8_1, fN8_0, fN8_1, zN8⟩ := blk2 hN8
                go_wp2_with fail
                go_roundw
                case rel => exact ⟨k + 1, by go_num, by omega, Lib.hid (fun j j0 j1 => by by_cases g : j < (k : Int) - 12; exact HN.out j j0 g; rw [show j = (k : Int) - 12 by omega]; exact HPK.out), hC8, hB8⟩
                case measure => simp [intOf]; omega
            · have HPK : Hid (hbP l e n ((k : Int) - 12) = true) := by show _ = _; rw [hW2]; rfl
              clear hW2
              have hh : hrB ((k : Int) - 12) = true := hrB_iff.2 (by omega)
              have HH := Lib.hid hh
              clear hh
              have HN2 := Lib.hid (nx_hr ((k : Int) - 12))
              go_wp2_with fail
              refine (sLn_t _ _ _ HL.out HH.out).mono ?_; rintro e' w3 ⟨rfl, hw3⟩
              have hC3 := blk_next hCr hw3
              have hB3 := bel_next hBr hw3
              have zw := hB3.size
              have hL4 := blk_new w3 (.cells #[.int .i64 (lnE l ((k : Int) - 12)), .int .i64 (lnN ((k : Int) - 12))] 30)
              have hC4 := blk_old hC3 (.cells #[.int .i64 (lnE l ((k : Int) - 12)), .int .i64 (lnN ((k : Int) - 12))] 30)
              have hB4 := hB3.alloc hB3.size (.cells #[.int .i64 (lnE l ((k : Int) - 12)), .int .i64 (lnN ((k : Int) - 12))] 30)
              go_wp2_with fail
              refine (sModH_any _ _ (by omega) (by omega)).mono ?_; rintro e' w' ⟨rfl, rfl⟩
              go_wp2_with fail
              refine (sLn_t _ (nxH ((k : Int) - 12)) _ HL.out HN2.out).mono ?_; rintro e' w5 ⟨rfl, hw5⟩
              have hL5 := blk_next hL4 hw5
              have hC5 := blk_next hC4 hw5
              have hB5 := bel_next hB4 hw5
              have zw5 := hB5.size
              have hN6 := blk_new w5 (.cells #[.int .i64 (lnE l (nxH ((k : Int) - 12))), .int .i64 (lnN (nxH ((k : Int) - 12)))] 30)
              have hL6 := blk_old hL5 (.cells #[.int .i64 (lnE l (nxH ((k : Int) - 12))), .int .i64 (lnN (nxH ((k : Int) - 12)))] 30)
              have hC6 := blk_old hC5 (.cells #[.int .i64 (lnE l (nxH ((k : Int) - 12))), .int .i64 (lnN (nxH ((k : Int) - 12)))] 30)
              have hB6 := hB5.alloc hB5.size (.cells #[.int .i64 (lnE l (nxH ((k : Int) - 12))), .int .i64 (lnN (nxH ((k : Int) - 12)))] 30)
              obtain ⟨cL6_0, cL6_1, fL6_0, fL6_1, zL6⟩ := blk2 hL6
              obtain ⟨cC6_0, cC6_1, fC6_0, fC6_1, zC6⟩ := blk2 hC6
              obtain ⟨cN6_0, cN6_1, fN6_0, fN6_1, zN6⟩ := blk2 hN6
              go_wp2_with fail
              refine (sOn_is _ HP.out).mono ?_; rintro e' w7 ⟨rfl, hw7⟩
              have hL7 := blk_next hL6 hw7
              have hC7 := blk_next hC6 hw7
              have hN7 := blk_next hN6 hw7
              have hB7 := bel_next hB6 hw7
              obtain ⟨cL7_0, cL7_1, fL7_0, fL7_1, zL7⟩ := blk2 hL7
              obtain ⟨cC7_0, cC7_1, fC7_0, fC7_1, zC7⟩ := blk2 hC7
              obtain ⟨cN7_0, cN7_1, fN7_0, fN7_1, zN7⟩ := blk2 hN7
              go_wp2_with fail
              go_ret
              exact ⟨_, rfl, .inl ⟨by omega, by omega, HPK.out, fun j j0 j1 => HN.out j j0 j1⟩, hB7⟩
          · have hk2 : ¬ (k : Int) - 12 < 12 := by omega
            go_wp2_with fail
            go_ret
            exact ⟨12, rfl, .inr ⟨rfl, fun j j0 j1 => HN.out j j0 (by omega)⟩, hBr⟩
end Go.Proofs.Ytgbelpkhfaajoab
