/- Bp: texts joined. -/
import Derived.Test.YtbklgpghonigjaaGreatMQG
namespace Go.Proofs.YtbklgpghonigjaaGreat
open Go Go.ChangeShapes Go.WideShapes Go.ChangeAt Go.RowKit
set_option linter.unusedSimpArgs false
set_option linter.unusedVariables false
set_option maxHeartbeats 4000000 in
theorem iBl_any (s : Bool) (t : Int) (w : World) :
    Calls Tryz.prog 75 #[.agg #[.bool s, .int .i64 t]] w fun E w' => E = .returned (.bool (inV t 0 20)) ∧ Below w.heap.size w w' := by
  go_enter Tryz.func75, Tryz.ntmps75
  go_wp2_with (go_at_call 99; refine (iIn7 _ _ _ _).mono ?_; rintro E w' ⟨rfl, rfl⟩)
  go_ret
  exact ⟨rfl, bel1 _ _⟩
theorem iBl_is {s : Bool} {t : Int} {r : Bool} (w : World) (h_ : inV t 0 20 = r) : Calls Tryz.prog 75 #[.agg #[.bool s, .int .i64 t]] w fun E w' => E = .returned (.bool r) ∧ Below w.heap.size w w' := by subst h_; exact iBl_any s t w
set_option maxHeartbeats 4000000 in
theorem sBl_any (s : Bool) (t : Int) (w : World) :
    Calls Tryz.prog 70 #[.agg #[.bool s, .int .i64 t]] w fun E w' => E = .returned (.bool (inV t 0 20)) ∧ Below w.heap.size w w' := by
  go_enter Tryz.func70, Tryz.ntmps70
  go_wp2_with (go_at_call 65; refine (sIn7 _ _ _ _).mono ?_; rintro E w' ⟨rfl, rfl⟩)
  go_ret
  exact ⟨rfl, bel1 _ _⟩
theorem sBl_is {s : Bool} {t : Int} {r : Bool} (w : World) (h_ : inV t 0 20 = r) : Calls Tryz.prog 70 #[.agg #[.bool s, .int .i64 t]] w fun E w' => E = .returned (.bool r) ∧ Below w.heap.size w w' := by subst h_; exact sBl_any s t w
set_option maxHeartbeats 4000000 in
theorem iPv_any (p : Int) (w : World) :
    Calls Tryz.prog 76 #[.int .i64 p] w fun E w' => E = .returned (.bool (inV p 0 20)) ∧ w = w' := by
  go_enter Tryz.func76, Tryz.ntmps76
  go_wp2_with (go_at_call 99; refine (iIn7 _ _ _ _).mono ?_; rintro E w' ⟨rfl, rfl⟩)
  go_ret
  exact ⟨rfl, rfl⟩
theorem iPv_is {p : Int} {r : Bool} (w : World) (h_ : inV p 0 20 = r) : Calls Tryz.prog 76 #[.int .i64 p] w fun E w' => E = .returned (.bool r) ∧ w = w' := by subst h_; exact iPv_any p w
set_option maxRecDepth 100000 in
set_option maxHeartbeats 4000000 in
theorem iPs_is {s r : Bool} {t lo hi p x u : Int} (w : World) (hs : pqS s t lo hi p x = r) (ht : pqT s t lo hi p x = u) :
    Calls Tryz.prog 29 #[.agg #[.bool s, .int .i64 t], .agg #[.int .i64 lo, .int .i64 hi], .int .i64 p, .int .i64 x] w fun E w' => E = .returned (.agg #[.bool r, .int .i64 u]) ∧ Below w.heap.size w w' := by
  subst hs ht
  cases hb9 : psB t lo hi p
  · rw [(pq_no hb9).1, (pq_no hb9).2]
    rcases psB_false hb9 with h1 | ⟨h1, h2⟩ | ⟨h1, h2, h3⟩
    · have HT := Lib.hid h1
      clear h1
      clear hb9
      go_enter Tryz.func29, Tryz.ntmps29
      go_wp2_with fail
      refine (iBl_is _ HT.out).mono ?_; rintro E w1 ⟨rfl, hw1⟩
      obtain ⟨hP1, hQ1, hR1, hB1⟩ := ownb3 hw1
      obtain ⟨p10, p11, _, _, zp1⟩ := blk2 hP1
      obtain ⟨q10, q11, _, _, zq1⟩ := blk2 hQ1
      obtain ⟨r10, r11, fr10, fr11, zr1⟩ := blk2 hR1
      have hZ := blk2_set (a := .bool false) (b := .int .i64 (0)) hR1
      obtain ⟨y0, y1, _⟩ := blk2 hZ
      go_wp2
      exact bodyPost_ret (v := .agg #[.bool false, .int .i64 (0)]) (by simp [results, Tryz.results29, go_sem, y0, y1]) rfl ⟨rfl, store2_bel hB1 (by omega) _ _⟩
    · have HT := Lib.hid h1
      have HB := Lib.hid h2
      clear h1 h2
      clear hb9
      go_enter Tryz.func29, Tryz.ntmps29
      go_wp2_with fail
      refine (iBl_is _ HT.out).mono ?_; rintro E w1 ⟨rfl, hw1⟩
      obtain ⟨hP1, hQ1, hR1, hB1⟩ := ownb3 hw1
      obtain ⟨p10, p11, _, _, zp1⟩ := blk2 hP1
      obtain ⟨q10, q11, _, _, zq1⟩ := blk2 hQ1
      obtain ⟨r10, r11, fr10, fr11, zr1⟩ := blk2 hR1
      go_wp2_with fail
      refine (iBd_is _ HB.out).mono ?_; rintro E w2 ⟨rfl, hw2⟩
      have hP2 := blk_next hP1 hw2
      have hQ2 := blk_next hQ1 hw2
      have hR2 := blk_next hR1 hw2
      have hB2 := bel_next hB1 hw2
      obtain ⟨p20, p21, _, _, zp2⟩ := blk2 hP2
      obtain ⟨q20, q21, _, _, zq2⟩ := blk2 hQ2
      obtain ⟨r20, r21, fr20, fr21, zr2⟩ := blk2 hR2
      have hZ := blk2_set (a := .bool false) (b := .int .i64 (0)) hR2
      obtain ⟨y0, y1, _⟩ := blk2 hZ
      go_wp2
      exact bodyPost_ret (v := .agg #[.bool false, .int .i64 (0)]) (by simp [results, Tryz.results29, go_sem, y0, y1]) rfl ⟨rfl, store2_bel hB2 (by omega) _ _⟩
    · have HT := Lib.hid h1
      have HB := Lib.hid h2
      have HP := Lib.hid h3
      clear h1 h2 h3
      clear hb9
      go_enter Tryz.func29, Tryz.ntmps29
      go_wp2_with fail
      refine (iBl_is _ HT.out).mono ?_; rintro E w1 ⟨rfl, hw1⟩
      obtain ⟨hP1, hQ1, hR1, hB1⟩ := ownb3 hw1
      obtain ⟨p10, p11, _, _, zp1⟩ := blk2 hP1
      obtain ⟨q10, q11, _, _, zq1⟩ := blk2 hQ1
      obtain ⟨r10, r11, fr10, fr11, zr1⟩ := blk2 hR1
      go_wp2_with fail
      refine (iBd_is _ HB.out).mono ?_; rintro E w2 ⟨rfl, hw2⟩
      have hP2 := blk_next hP1 hw2
      have hQ2 := blk_next hQ1 hw2
      have hR2 := blk_next hR1 hw2
      have hB2 := bel_next hB1 hw2
      obtain ⟨p20, p21, _, _, zp2⟩ := blk2 hP2
      obtain ⟨q20, q21, _, _, zq2⟩ := blk2 hQ2
      obtain ⟨r20, r21, fr20, fr21, zr2⟩ := blk2 hR2
      go_wp2_with fail
      refine (iPv_is _ HP.out).mono ?_; rintro E w' ⟨rfl, rfl⟩
      have hZ := blk2_set (a := .bool false) (b := .int .i64 (0)) hR2
      obtain ⟨y0, y1, _⟩ := blk2 hZ
      go_wp2
      exact bodyPost_ret (v := .agg #[.bool false, .int .i64 (0)]) (by simp [results, Tryz.results29, go_sem, y0, y1]) rfl ⟨rfl, store2_bel hB2 (by omega) _ _⟩
  · rw [(pq_yes hb9).1, (pq_yes hb9).2]
    obtain ⟨⟨t0, t20⟩, hbb, ⟨pp0, pp20⟩⟩ := psB_iff.1 hb9
    obtain ⟨h1, h2, h3⟩ := psB_true hb9
    obtain ⟨v, hv⟩ : ∃ v, sgB s lo hi x = v := ⟨_, rfl⟩
    have HX : Hid (bqB s lo hi x = v) := Lib.hid ((bqB_yes h2).trans hv)
    have HS : Hid (sgB s lo hi x = v) := hv
    clear hb9 hv hbb
    have HT := Lib.hid h1
    have HB := Lib.hid h2
    have HP := Lib.hid h3
    clear h1 h2 h3
    cases s <;> cases v
    · by_cases h20 : t ≤ 19
      · rw [(ps_st HS.out).1, (ps_st HS.out).2]
        rw [show min (t + 1) 20 = t + 1 by omega]
        clear HS
        go_enter Tryz.func29, Tryz.ntmps29
        go_wp2_with fail
        refine (iBl_is _ HT.out).mono ?_; rintro E w1 ⟨rfl, hw1⟩
        obtain ⟨hP1, hQ1, hR1, hB1⟩ := ownb3 hw1
        obtain ⟨p10, p11, _, _, zp1⟩ := blk2 hP1
        obtain ⟨q10, q11, _, _, zq1⟩ := blk2 hQ1
        obtain ⟨r10, r11, fr10, fr11, zr1⟩ := blk2 hR1
        go_wp2_with fail
        refine (iBd_is _ HB.out).mono ?_; rintro E w2 ⟨rfl, hw2⟩
        have hP2 := blk_next hP1 hw2
        have hQ2 := blk_next hQ1 hw2
        have hR2 := blk_next hR1 hw2
        have hB2 := bel_next hB1 hw2
        obtain ⟨p20, p21, _, _, zp2⟩ := blk2 hP2
        obtain ⟨q20, q21, _, _, zq2⟩ := blk2 hQ2
        obtain ⟨r20, r21, fr20, fr21, zr2⟩ := blk2 hR2
        go_wp2_with fail
        refine (iPv_is _ HP.out).mono ?_; rintro E w' ⟨rfl, rfl⟩
        go_wp2_with fail
        refine (iBq_is _ HX.out).mono ?_; rintro E w3 ⟨rfl, hw3⟩
        have hP3 := blk_next hP2 hw3
        have hQ3 := blk_next hQ2 hw3
        have hR3 := blk_next hR2 hw3
        have hB3 := bel_next hB2 hw3
        obtain ⟨p30, p31, _, _, zp3⟩ := blk2 hP3
        obtain ⟨q30, q31, _, _, zq3⟩ := blk2 hQ3
        obtain ⟨r30, r31, fr30, fr31, zr3⟩ := blk2 hR3
        have hZ := blk2_set (a := .bool false) (b := .int .i64 (t + 1)) hR3
        obtain ⟨y0, y1, _⟩ := blk2 hZ
        go_wp2
        exact bodyPost_ret (v := .agg #[.bool false, .int .i64 (t + 1)]) (by simp [results, Tryz.results29, go_sem, y0, y1]) rfl ⟨rfl, store2_bel hB3 (by omega) _ _⟩
      · rw [(ps_st HS.out).1, (ps_st HS.out).2]
        rw [show min (t + 1) 20 = 20 by omega]
        clear HS
        go_enter Tryz.func29, Tryz.ntmps29
        go_wp2_with fail
        refine (iBl_is _ HT.out).mono ?_; rintro E w1 ⟨rfl, hw1⟩
        obtain ⟨hP1, hQ1, hR1, hB1⟩ := ownb3 hw1
        obtain ⟨p10, p11, _, _, zp1⟩ := blk2 hP1
        obtain ⟨q10, q11, _, _, zq1⟩ := blk2 hQ1
        obtain ⟨r10, r11, fr10, fr11, zr1⟩ := blk2 hR1
        go_wp2_with fail
        refine (iBd_is _ HB.out).mono ?_; rintro E w2 ⟨rfl, hw2⟩
        have hP2 := blk_next hP1 hw2
        have hQ2 := blk_next hQ1 hw2
        have hR2 := blk_next hR1 hw2
        have hB2 := bel_next hB1 hw2
        obtain ⟨p20, p21, _, _, zp2⟩ := blk2 hP2
        obtain ⟨q20, q21, _, _, zq2⟩ := blk2 hQ2
        obtain ⟨r20, r21, fr20, fr21, zr2⟩ := blk2 hR2
        go_wp2_with fail
        refine (iPv_is _ HP.out).mono ?_; rintro E w' ⟨rfl, rfl⟩
        go_wp2_with fail
        refine (iBq_is _ HX.out).mono ?_; rintro E w3 ⟨rfl, hw3⟩
        have hP3 := blk_next hP2 hw3
        have hQ3 := blk_next hQ2 hw3
        have hR3 := blk_next hR2 hw3
        have hB3 := bel_next hB2 hw3
        obtain ⟨p30, p31, _, _, zp3⟩ := blk2 hP3
        obtain ⟨q30, q31, _, _, zq3⟩ := blk2 hQ3
        obtain ⟨r30, r31, fr30, fr31, zr3⟩ := blk2 hR3
        have hZ := blk2_set (a := .bool false) (b := .int .i64 (20)) hR3
        obtain ⟨y0, y1, _⟩ := blk2 hZ
        go_wp2
        exact bodyPost_ret (v := .agg #[.bool false, .int .i64 (20)]) (by simp [results, Tryz.results29, go_sem, y0, y1]) rfl ⟨rfl, store2_bel hB3 (by omega) _ _⟩
    · by_cases hpt : p ≤ t
      · rw [(ps_mv HS.out (by omega)).1, (ps_mv HS.out (by omega)).2]
        show Calls _ _ _ _ fun E w' => E = .returned (.agg #[.bool true, .int .i64 0]) ∧ _
        clear HS
        go_enter Tryz.func29, Tryz.ntmps29
        go_wp2_with fail
        refine (iBl_is _ HT.out).mono ?_; rintro E w1 ⟨rfl, hw1⟩
        obtain ⟨hP1, hQ1, hR1, hB1⟩ := ownb3 hw1
        obtain ⟨p10, p11, _, _, zp1⟩ := blk2 hP1
        obtain ⟨q10, q11, _, _, zq1⟩ := blk2 hQ1
        obtain ⟨r10, r11, fr10, fr11, zr1⟩ := blk2 hR1
        go_wp2_with fail
        refine (iBd_is _ HB.out).mono ?_; rintro E w2 ⟨rfl, hw2⟩
        have hP2 := blk_next hP1 hw2
        have hQ2 := blk_next hQ1 hw2
        have hR2 := blk_next hR1 hw2
        have hB2 := bel_next hB1 hw2
        obtain ⟨p20, p21, _, _, zp2⟩ := blk2 hP2
        obtain ⟨q20, q21, _, _, zq2⟩ := blk2 hQ2
        obtain ⟨r20, r21, fr20, fr21, zr2⟩ := blk2 hR2
        go_wp2_with fail
        refine (iPv_is _ HP.out).mono ?_; rintro E w' ⟨rfl, rfl⟩
        go_wp2_with fail
        refine (iBq_is _ HX.out).mono ?_; rintro E w3 ⟨rfl, hw3⟩
        have hP3 := blk_next hP2 hw3
        have hQ3 := blk_next hQ2 hw3
        have hR3 := blk_next hR2 hw3
        have hB3 := bel_next hB2 hw3
        obtain ⟨p30, p31, _, _, zp3⟩ := blk2 hP3
        obtain ⟨q30, q31, _, _, zq3⟩ := blk2 hQ3
        obtain ⟨r30, r31, fr30, fr31, zr3⟩ := blk2 hR3
        have hZ := blk2_set (a := .bool true) (b := .int .i64 (0)) hR3
        obtain ⟨y0, y1, _⟩ := blk2 hZ
        go_wp2
        exact bodyPost_ret (v := .agg #[.bool true, .int .i64 (0)]) (by simp [results, Tryz.results29, go_sem, y0, y1]) rfl ⟨rfl, store2_bel hB3 (by omega) _ _⟩
      · by_cases h20 : t ≤ 19
        · rw [(ps_wt (by omega)).1, (ps_wt (by omega)).2]
          rw [show min (t + 1) 20 = t + 1 by omega]
          clear HS
          go_enter Tryz.func29, Tryz.ntmps29
          go_wp2_with fail
          refine (iBl_is _ HT.out).mono ?_; rintro E w1 ⟨rfl, hw1⟩
          obtain ⟨hP1, hQ1, hR1, hB1⟩ := ownb3 hw1
          obtain ⟨p10, p11, _, _, zp1⟩ := blk2 hP1
          obtain ⟨q10, q11, _, _, zq1⟩ := blk2 hQ1
          obtain ⟨r10, r11, fr10, fr11, zr1⟩ := blk2 hR1
          go_wp2_with fail
          refine (iBd_is _ HB.out).mono ?_; rintro E w2 ⟨rfl, hw2⟩
          have hP2 := blk_next hP1 hw2
          have hQ2 := blk_next hQ1 hw2
          have hR2 := blk_next hR1 hw2
          have hB2 := bel_next hB1 hw2
          obtain ⟨p20, p21, _, _, zp2⟩ := blk2 hP2
          obtain ⟨q20, q21, _, _, zq2⟩ := blk2 hQ2
          obtain ⟨r20, r21, fr20, fr21, zr2⟩ := blk2 hR2
          go_wp2_with fail
          refine (iPv_is _ HP.out).mono ?_; rintro E w' ⟨rfl, rfl⟩
          go_wp2_with fail
          refine (iBq_is _ HX.out).mono ?_; rintro E w3 ⟨rfl, hw3⟩
          have hP3 := blk_next hP2 hw3
          have hQ3 := blk_next hQ2 hw3
          have hR3 := blk_next hR2 hw3
          have hB3 := bel_next hB2 hw3
          obtain ⟨p30, p31, _, _, zp3⟩ := blk2 hP3
          obtain ⟨q30, q31, _, _, zq3⟩ := blk2 hQ3
          obtain ⟨r30, r31, fr30, fr31, zr3⟩ := blk2 hR3
          have hZ := blk2_set (a := .bool false) (b := .int .i64 (t + 1)) hR3
          obtain ⟨y0, y1, _⟩ := blk2 hZ
          go_wp2
          exact bodyPost_ret (v := .agg #[.bool false, .int .i64 (t + 1)]) (by simp [results, Tryz.results29, go_sem, y0, y1]) rfl ⟨rfl, store2_bel hB3 (by omega) _ _⟩
        · exact absurd hpt (by omega)
    · by_cases hpt : p ≤ t
      · rw [(ps_mv HS.out (by omega)).1, (ps_mv HS.out (by omega)).2]
        show Calls _ _ _ _ fun E w' => E = .returned (.agg #[.bool false, .int .i64 0]) ∧ _
        clear HS
        go_enter Tryz.func29, Tryz.ntmps29
        go_wp2_with fail
        refine (iBl_is _ HT.out).mono ?_; rintro E w1 ⟨rfl, hw1⟩
        obtain ⟨hP1, hQ1, hR1, hB1⟩ := ownb3 hw1
        obtain ⟨p10, p11, _, _, zp1⟩ := blk2 hP1
        obtain ⟨q10, q11, _, _, zq1⟩ := blk2 hQ1
        obtain ⟨r10, r11, fr10, fr11, zr1⟩ := blk2 hR1
        go_wp2_with fail
        refine (iBd_is _ HB.out).mono ?_; rintro E w2 ⟨rfl, hw2⟩
        have hP2 := blk_next hP1 hw2
        have hQ2 := blk_next hQ1 hw2
        have hR2 := blk_next hR1 hw2
        have hB2 := bel_next hB1 hw2
        obtain ⟨p20, p21, _, _, zp2⟩ := blk2 hP2
        obtain ⟨q20, q21, _, _, zq2⟩ := blk2 hQ2
        obtain ⟨r20, r21, fr20, fr21, zr2⟩ := blk2 hR2
        go_wp2_with fail
        refine (iPv_is _ HP.out).mono ?_; rintro E w' ⟨rfl, rfl⟩
        go_wp2_with fail
        refine (iBq_is _ HX.out).mono ?_; rintro E w3 ⟨rfl, hw3⟩
        have hP3 := blk_next hP2 hw3
        have hQ3 := blk_next hQ2 hw3
        have hR3 := blk_next hR2 hw3
        have hB3 := bel_next hB2 hw3
        obtain ⟨p30, p31, _, _, zp3⟩ := blk2 hP3
        obtain ⟨q30, q31, _, _, zq3⟩ := blk2 hQ3
        obtain ⟨r30, r31, fr30, fr31, zr3⟩ := blk2 hR3
        have hZ := blk2_set (a := .bool false) (b := .int .i64 (0)) hR3
        obtain ⟨y0, y1, _⟩ := blk2 hZ
        go_wp2
        exact bodyPost_ret (v := .agg #[.bool false, .int .i64 (0)]) (by simp [results, Tryz.results29, go_sem, y0, y1]) rfl ⟨rfl, store2_bel hB3 (by omega) _ _⟩
      · by_cases h20 : t ≤ 19
        · rw [(ps_wt (by omega)).1, (ps_wt (by omega)).2]
          rw [show min (t + 1) 20 = t + 1 by omega]
          clear HS
          go_enter Tryz.func29, Tryz.ntmps29
          go_wp2_with fail
          refine (iBl_is _ HT.out).mono ?_; rintro E w1 ⟨rfl, hw1⟩
          obtain ⟨hP1, hQ1, hR1, hB1⟩ := ownb3 hw1
          obtain ⟨p10, p11, _, _, zp1⟩ := blk2 hP1
          obtain ⟨q10, q11, _, _, zq1⟩ := blk2 hQ1
          obtain ⟨r10, r11, fr10, fr11, zr1⟩ := blk2 hR1
          go_wp2_with fail
          refine (iBd_is _ HB.out).mono ?_; rintro E w2 ⟨rfl, hw2⟩
          have hP2 := blk_next hP1 hw2
          have hQ2 := blk_next hQ1 hw2
          have hR2 := blk_next hR1 hw2
          have hB2 := bel_next hB1 hw2
          obtain ⟨p20, p21, _, _, zp2⟩ := blk2 hP2
          obtain ⟨q20, q21, _, _, zq2⟩ := blk2 hQ2
          obtain ⟨r20, r21, fr20, fr21, zr2⟩ := blk2 hR2
          go_wp2_with fail
          refine (iPv_is _ HP.out).mono ?_; rintro E w' ⟨rfl, rfl⟩
          go_wp2_with fail
          refine (iBq_is _ HX.out).mono ?_; rintro E w3 ⟨rfl, hw3⟩
          have hP3 := blk_next hP2 hw3
          have hQ3 := blk_next hQ2 hw3
          have hR3 := blk_next hR2 hw3
          have hB3 := bel_next hB2 hw3
          obtain ⟨p30, p31, _, _, zp3⟩ := blk2 hP3
          obtain ⟨q30, q31, _, _, zq3⟩ := blk2 hQ3
          obtain ⟨r30, r31, fr30, fr31, zr3⟩ := blk2 hR3
          have hZ := blk2_set (a := .bool true) (b := .int .i64 (t + 1)) hR3
          obtain ⟨y0, y1, _⟩ := blk2 hZ
          go_wp2
          exact bodyPost_ret (v := .agg #[.bool true, .int .i64 (t + 1)]) (by simp [results, Tryz.results29, go_sem, y0, y1]) rfl ⟨rfl, store2_bel hB3 (by omega) _ _⟩
        · exact absurd hpt (by omega)
    · by_cases h20 : t ≤ 19
      · rw [(ps_st HS.out).1, (ps_st HS.out).2]
        rw [show min (t + 1) 20 = t + 1 by omega]
        clear HS
        go_enter Tryz.func29, Tryz.ntmps29
        go_wp2_with fail
        refine (iBl_is _ HT.out).mono ?_; rintro E w1 ⟨rfl, hw1⟩
        obtain ⟨hP1, hQ1, hR1, hB1⟩ := ownb3 hw1
        obtain ⟨p10, p11, _, _, zp1⟩ := blk2 hP1
        obtain ⟨q10, q11, _, _, zq1⟩ := blk2 hQ1
        obtain ⟨r10, r11, fr10, fr11, zr1⟩ := blk2 hR1
        go_wp2_with fail
        refine (iBd_is _ HB.out).mono ?_; rintro E w2 ⟨rfl, hw2⟩
        have hP2 := blk_next hP1 hw2
        have hQ2 := blk_next hQ1 hw2
        have hR2 := blk_next hR1 hw2
        have hB2 := bel_next hB1 hw2
        obtain ⟨p20, p21, _, _, zp2⟩ := blk2 hP2
        obtain ⟨q20, q21, _, _, zq2⟩ := blk2 hQ2
        obtain ⟨r20, r21, fr20, fr21, zr2⟩ := blk2 hR2
        go_wp2_with fail
        refine (iPv_is _ HP.out).mono ?_; rintro E w' ⟨rfl, rfl⟩
        go_wp2_with fail
        refine (iBq_is _ HX.out).mono ?_; rintro E w3 ⟨rfl, hw3⟩
        have hP3 := blk_next hP2 hw3
        have hQ3 := blk_next hQ2 hw3
        have hR3 := blk_next hR2 hw3
        have hB3 := bel_next hB2 hw3
        obtain ⟨p30, p31, _, _, zp3⟩ := blk2 hP3
        obtain ⟨q30, q31, _, _, zq3⟩ := blk2 hQ3
        obtain ⟨r30, r31, fr30, fr31, zr3⟩ := blk2 hR3
        have hZ := blk2_set (a := .bool true) (b := .int .i64 (t + 1)) hR3
        obtain ⟨y0, y1, _⟩ := blk2 hZ
        go_wp2
        exact bodyPost_ret (v := .agg #[.bool true, .int .i64 (t + 1)]) (by simp [results, Tryz.results29, go_sem, y0, y1]) rfl ⟨rfl, store2_bel hB3 (by omega) _ _⟩
      · rw [(ps_st HS.out).1, (ps_st HS.out).2]
        rw [show min (t + 1) 20 = 20 by omega]
        clear HS
        go_enter Tryz.func29, Tryz.ntmps29
        go_wp2_with fail
        refine (iBl_is _ HT.out).mono ?_; rintro E w1 ⟨rfl, hw1⟩
        obtain ⟨hP1, hQ1, hR1, hB1⟩ := ownb3 hw1
        obtain ⟨p10, p11, _, _, zp1⟩ := blk2 hP1
        obtain ⟨q10, q11, _, _, zq1⟩ := blk2 hQ1
        obtain ⟨r10, r11, fr10, fr11, zr1⟩ := blk2 hR1
        go_wp2_with fail
        refine (iBd_is _ HB.out).mono ?_; rintro E w2 ⟨rfl, hw2⟩
        have hP2 := blk_next hP1 hw2
        have hQ2 := blk_next hQ1 hw2
        have hR2 := blk_next hR1 hw2
        have hB2 := bel_next hB1 hw2
        obtain ⟨p20, p21, _, _, zp2⟩ := blk2 hP2
        obtain ⟨q20, q21, _, _, zq2⟩ := blk2 hQ2
        obtain ⟨r20, r21, fr20, fr21, zr2⟩ := blk2 hR2
        go_wp2_with fail
        refine (iPv_is _ HP.out).mono ?_; rintro E w' ⟨rfl, rfl⟩
        go_wp2_with fail
        refine (iBq_is _ HX.out).mono ?_; rintro E w3 ⟨rfl, hw3⟩
        have hP3 := blk_next hP2 hw3
        have hQ3 := blk_next hQ2 hw3
        have hR3 := blk_next hR2 hw3
        have hB3 := bel_next hB2 hw3
        obtain ⟨p30, p31, _, _, zp3⟩ := blk2 hP3
        obtain ⟨q30, q31, _, _, zq3⟩ := blk2 hQ3
        obtain ⟨r30, r31, fr30, fr31, zr3⟩ := blk2 hR3
        have hZ := blk2_set (a := .bool true) (b := .int .i64 (20)) hR3
        obtain ⟨y0, y1, _⟩ := blk2 hZ
        go_wp2
        exact bodyPost_ret (v := .agg #[.bool true, .int .i64 (20)]) (by simp [results, Tryz.results29, go_sem, y0, y1]) rfl ⟨rfl, store2_bel hB3 (by omega) _ _⟩
set_option maxRecDepth 100000 in
set_option maxHeartbeats 4000000 in
theorem sPs_is {s r : Bool} {t lo hi p x u : Int} (w : World) (hs : pqS s t lo hi p x = r) (ht : pqT s t lo hi p x = u) :
    Calls Tryz.prog 64 #[.agg #[.bool s, .int .i64 t], .agg #[.int .i64 lo, .int .i64 hi], .int .i64 p, .int .i64 x] w fun E w' => E = .returned (.agg #[.bool r, .int .i64 u]) ∧ Below w.heap.size w w' := by
  subst hs ht
  cases hb9 : psB t lo hi p
  · rw [(pq_no hb9).1, (pq_no hb9).2]
    rcases psB_false hb9 with h1 | ⟨h1, h2⟩ | ⟨h1, h2, h3⟩
    · have HT := Lib.hid h1
      clear h1
      clear hb9
      go_enter Tryz.func64, Tryz.ntmps64
      go_wp2_with fail
      refine (sBl_is _ HT.out).mono ?_; rintro E w1 ⟨rfl, hw1⟩
      obtain ⟨hP1, hQ1, hR1, hB1⟩ := ownb3 hw1
      obtain ⟨p10, p11, _, _, zp1⟩ := blk2 hP1
      obtain ⟨q10, q11, _, _, zq1⟩ := blk2 hQ1
      obtain ⟨r10, r11, fr10, fr11, zr1⟩ := blk2 hR1
      have hZ := blk2_set (a := .bool false) (b := .int .i64 (0)) hR1
      obtain ⟨y0, y1, _⟩ := blk2 hZ
      go_wp2
      exact bodyPost_ret (v := .agg #[.bool false, .int .i64 (0)]) (by simp [results, Tryz.results64, go_sem, y0, y1]) rfl ⟨rfl, store2_bel hB1 (by omega) _ _⟩
    · have HT := Lib.hid h1
      have HB := Lib.hid h2
      clear h1 h2
      clear hb9
      go_enter Tryz.func64, Tryz.ntmps64
      go_wp2_with fail
      refine (sBl_is _ HT.out).mono ?_; rintro E w1 ⟨rfl, hw1⟩
      obtain ⟨hP1, hQ1, hR1, hB1⟩ := ownb3 hw1
      obtain ⟨p10, p11, _, _, zp1⟩ := blk2 hP1
      obtain ⟨q10, q11, _, _, zq1⟩ := blk2 hQ1
      obtain ⟨r10, r11, fr10, fr11, zr1⟩ := blk2 hR1
      go_wp2_with fail
      refine (sBd_is _ HB.out).mono ?_; rintro E w2 ⟨rfl, hw2⟩
      have hP2 := blk_next hP1 hw2
      have hQ2 := blk_next hQ1 hw2
      have hR2 := blk_next hR1 hw2
      have hB2 := bel_next hB1 hw2
      obtain ⟨p20, p21, _, _, zp2⟩ := blk2 hP2
      obtain ⟨q20, q21, _, _, zq2⟩ := blk2 hQ2
      obtain ⟨r20, r21, fr20, fr21, zr2⟩ := blk2 hR2
      have hZ := blk2_set (a := .bool false) (b := .int .i64 (0)) hR2
      obtain ⟨y0, y1, _⟩ := blk2 hZ
      go_wp2
      exact bodyPost_ret (v := .agg #[.bool false, .int .i64 (0)]) (by simp [results, Tryz.results64, go_sem, y0, y1]) rfl ⟨rfl, store2_bel hB2 (by omega) _ _⟩
    · have HT := Lib.hid h1
      have HB := Lib.hid h2
      have HP := Lib.hid h3
      clear h1 h2 h3
      clear hb9
      go_enter Tryz.func64, Tryz.ntmps64
      go_wp2_with fail
      refine (sBl_is _ HT.out).mono ?_; rintro E w1 ⟨rfl, hw1⟩
      obtain ⟨hP1, hQ1, hR1, hB1⟩ := ownb3 hw1
      obtain ⟨p10, p11, _, _, zp1⟩ := blk2 hP1
      obtain ⟨q10, q11, _, _, zq1⟩ := blk2 hQ1
      obtain ⟨r10, r11, fr10, fr11, zr1⟩ := blk2 hR1
      go_wp2_with fail
      refine (sBd_is _ HB.out).mono ?_; rintro E w2 ⟨rfl, hw2⟩
      have hP2 := blk_next hP1 hw2
      have hQ2 := blk_next hQ1 hw2
      have hR2 := blk_next hR1 hw2
      have hB2 := bel_next hB1 hw2
      obtain ⟨p20, p21, _, _, zp2⟩ := blk2 hP2
      obtain ⟨q20, q21, _, _, zq2⟩ := blk2 hQ2
      obtain ⟨r20, r21, fr20, fr21, zr2⟩ := blk2 hR2
      go_wp2_with fail
      refine (sIn7_is _ HP.out).mono ?_; rintro E w' ⟨rfl, rfl⟩
      have hZ := blk2_set (a := .bool false) (b := .int .i64 (0)) hR2
      obtain ⟨y0, y1, _⟩ := blk2 hZ
      go_wp2
      exact bodyPost_ret (v := .agg #[.bool false, .int .i64 (0)]) (by simp [results, Tryz.results64, go_sem, y0, y1]) rfl ⟨rfl, store2_bel hB2 (by omega) _ _⟩
  · rw [(pq_yes hb9).1, (pq_yes hb9).2]
    obtain ⟨⟨t0, t20⟩, hbb, ⟨pp0, pp20⟩⟩ := psB_iff.1 hb9
    obtain ⟨h1, h2, h3⟩ := psB_true hb9
    obtain ⟨v, hv⟩ : ∃ v, sgB s lo hi x = v := ⟨_, rfl⟩
    have HX : Hid (bqB s lo hi x = v) := Lib.hid ((bqB_yes h2).trans hv)
    have HS : Hid (sgB s lo hi x = v) := hv
    clear hb9 hv hbb
    have HT := Lib.hid h1
    have HB := Lib.hid h2
    have HP := Lib.hid h3
    clear h1 h2 h3
    cases s <;> cases v
    · by_cases h20 : t ≤ 19
      · rw [(ps_st HS.out).1, (ps_st HS.out).2]
        rw [show min (t + 1) 20 = t + 1 by omega]
        clear HS
        go_enter Tryz.func64, Tryz.ntmps64
        go_wp2_with fail
        refine (sBl_is _ HT.out).mono ?_; rintro E w1 ⟨rfl, hw1⟩
        obtain ⟨hP1, hQ1, hR1, hB1⟩ := ownb3 hw1
        obtain ⟨p10, p11, _, _, zp1⟩ := blk2 hP1
        obtain ⟨q10, q11, _, _, zq1⟩ := blk2 hQ1
        obtain ⟨r10, r11, fr10, fr11, zr1⟩ := blk2 hR1
        go_wp2_with fail
        refine (sBd_is _ HB.out).mono ?_; rintro E w2 ⟨rfl, hw2⟩
        have hP2 := blk_next hP1 hw2
        have hQ2 := blk_next hQ1 hw2
        have hR2 := blk_next hR1 hw2
        have hB2 := bel_next hB1 hw2
        obtain ⟨p20, p21, _, _, zp2⟩ := blk2 hP2
        obtain ⟨q20, q21, _, _, zq2⟩ := blk2 hQ2
        obtain ⟨r20, r21, fr20, fr21, zr2⟩ := blk2 hR2
        go_wp2_with fail
        refine (sIn7_is _ HP.out).mono ?_; rintro E w' ⟨rfl, rfl⟩
        go_wp2_with fail
        refine wp_region_held_drew (S := (fun w' => w'.heap[w.heap.size]? = some (.cells #[.bool false, .int .i64 t] 31) ∧ w'.heap[w.heap.size + 1]? = some (.cells #[.int .i64 lo, .int .i64 hi] 29) ∧ w'.heap[w.heap.size + 1 + 1]? = some (.cells #[.bool false, .int .i64 0] 31) ∧ Below w.heap.size w w')) (by kernel_rfl) ⟨hP2, hQ2, hR2, hB2.drew⟩ (fun hHeld => ?_)
        obtain ⟨hP_0, hQ_0, hR_0, hB_0⟩ := id hHeld
        refine wpAnyH_take (i := 0) (oi := _) (v := ?_) rfl (by kernel_rfl) (by kernel_rfl) (by kernel_rfl) (fun _ _ _ h => h) (Or.inl ⟨by rfl, ?_⟩) (by assumption) ?_
        (rotate_left); (focus (intro wv hSw; (obtain ⟨qP, qQ, qR, qB⟩ := hSw);  go_simp; (try with_reducible rfl)))
        try simp only [Act.put, List.getElem_toArray, List.getElem_cons_succ, List.getElem_cons_zero, List.setIfInBounds_toArray, List.set_cons_zero, List.set_cons_succ]
        refine wpAnyH_take (i := 1) (oi := _) (v := ?_) rfl (by kernel_rfl) (by kernel_rfl) (by kernel_rfl) (fun _ _ _ h => h) (Or.inl ⟨by rfl, ?_⟩) (by assumption) ?_
        (rotate_left); (focus (intro wv hSw; (obtain ⟨qP, qQ, qR, qB⟩ := hSw); obtain ⟨u0, u1, _, _, _⟩ := blk2 qP; go_simp; (try with_reducible rfl)))
        try simp only [Act.put, List.getElem_toArray, List.getElem_cons_succ, List.getElem_cons_zero, List.setIfInBounds_toArray, List.set_cons_zero, List.set_cons_succ]
        refine wpAnyH_take (i := 2) (oi := _) (v := ?_) rfl (by kernel_rfl) (by kernel_rfl) (by kernel_rfl) (fun _ _ _ h => h) (Or.inl ⟨by rfl, ?_⟩) (by assumption) ?_
        (rotate_left); (focus (intro wv hSw; (obtain ⟨qP, qQ, qR, qB⟩ := hSw); obtain ⟨u0, u1, _, _, _⟩ := blk2 qQ; go_simp; (try with_reducible rfl)))
        try simp only [Act.put, List.getElem_toArray, List.getElem_cons_succ, List.getElem_cons_zero, List.setIfInBounds_toArray, List.set_cons_zero, List.set_cons_succ]
        refine wpAnyH_take (i := 3) (oi := _) (v := ?_) rfl (by kernel_rfl) (by kernel_rfl) (by kernel_rfl) (fun _ _ _ h => h) (Or.inl ⟨by rfl, ?_⟩) (by assumption) ?_
        (rotate_left); (focus (intro wv hSw; (obtain ⟨qP, qQ, qR, qB⟩ := hSw);  go_simp; (try with_reducible rfl)))
        try simp only [Act.put, List.getElem_toArray, List.getElem_cons_succ, List.getElem_cons_zero, List.setIfInBounds_toArray, List.set_cons_zero, List.set_cons_succ]
        refine wpAnyH_take (i := 5) (oi := _) (v := ?_) rfl (by kernel_rfl) (by kernel_rfl) (by kernel_rfl) (fun _ _ _ h => h) (Or.inl ⟨by rfl, ?_⟩) (by assumption) ?_
        (rotate_left); (focus (intro wv hSw; (obtain ⟨qP, qQ, qR, qB⟩ := hSw);  go_simp; (try with_reducible rfl)))
        try simp only [Act.put, List.getElem_toArray, List.getElem_cons_succ, List.getElem_cons_zero, List.setIfInBounds_toArray, List.set_cons_zero, List.set_cons_succ]
        refine wpAnyH_take (i := 6) (oi := _) (v := ?_) rfl (by kernel_rfl) (by kernel_rfl) (by kernel_rfl) (fun _ _ _ h => h) (Or.inl ⟨by rfl, ?_⟩) (by assumption) ?_
        (rotate_left); (focus (intro wv hSw; (obtain ⟨qP, qQ, qR, qB⟩ := hSw); obtain ⟨u0, u1, _, _, _⟩ := blk2 qP; go_simp; (try with_reducible rfl)))
        try simp only [Act.put, List.getElem_toArray, List.getElem_cons_succ, List.getElem_cons_zero, List.setIfInBounds_toArray, List.set_cons_zero, List.set_cons_succ]
        refine wpAnyH_ready (rs := [4]) (by kernel_rfl) (by simp) ?_
        refine AllReadyH.cons (o := _) rfl (fun K hK => ?_) AllReadyH.nil
        go_simp
        (go_at_call 116; refine (sBq_is _ HX.out).mono ?_; rintro e x0c ⟨rfl, hw_0c⟩)
        refine hK.out _ _ ⟨blk_next hP_0 hw_0c, blk_next hQ_0 hw_0c, blk_next hR_0 hw_0c, bel_next hB_0 hw_0c⟩ (fun hHeld => ?_)
        clear hK K
        try simp only [Act.put, List.getElem_toArray, List.getElem_cons_succ, List.getElem_cons_zero, List.setIfInBounds_toArray, List.set_cons_zero, List.set_cons_succ]
        obtain ⟨hP_0c, hQ_0c, hR_0c, hB_0c⟩ := id hHeld
        refine wpAnyH_take (i := 7) (oi := _) (v := ?_) rfl (by kernel_rfl) (by kernel_rfl) (by kernel_rfl) (fun _ _ _ h => h) (Or.inl ⟨by rfl, ?_⟩) (by assumption) ?_
        (rotate_left); (focus (intro wv hSw; (obtain ⟨qP, qQ, qR, qB⟩ := hSw);  go_simp; (try with_reducible rfl)))
        try simp only [Act.put, List.getElem_toArray, List.getElem_cons_succ, List.getElem_cons_zero, List.setIfInBounds_toArray, List.set_cons_zero, List.set_cons_succ]
        refine wpAnyH_take (i := 8) (oi := _) (v := ?_) rfl (by kernel_rfl) (by kernel_rfl) (by kernel_rfl) (fun _ _ _ h => h) (Or.inl ⟨by rfl, ?_⟩) (by assumption) ?_
        (rotate_left); (focus (intro wv hSw; (obtain ⟨qP, qQ, qR, qB⟩ := hSw);  go_simp; (try with_reducible rfl)))
        try simp only [Act.put, List.getElem_toArray, List.getElem_cons_succ, List.getElem_cons_zero, List.setIfInBounds_toArray, List.set_cons_zero, List.set_cons_succ]
        refine wpAnyH_take (i := 9) (oi := _) (v := undef) rfl (by kernel_rfl) (by kernel_rfl) (by kernel_rfl) (fun _ _ _ h => h) (Or.inr ⟨by kernel_rfl, rfl⟩) (by assumption) ?_
        try simp only [Act.put, List.getElem_toArray, List.getElem_cons_succ, List.getElem_cons_zero, List.setIfInBounds_toArray, List.set_cons_zero, List.set_cons_succ]
        refine wpAnyH_take (i := 10) (oi := _) (v := undef) rfl (by kernel_rfl) (by kernel_rfl) (by kernel_rfl) (fun _ _ _ h => h) (Or.inr ⟨by kernel_rfl, rfl⟩) (by assumption) ?_
        try simp only [Act.put, List.getElem_toArray, List.getElem_cons_succ, List.getElem_cons_zero, List.setIfInBounds_toArray, List.set_cons_zero, List.set_cons_succ]
        refine wpAnyH_take (i := 11) (oi := _) (v := undef) rfl (by kernel_rfl) (by kernel_rfl) (by kernel_rfl) (fun _ _ _ h => h) (Or.inr ⟨by kernel_rfl, rfl⟩) (by assumption) ?_
        try simp only [Act.put, List.getElem_toArray, List.getElem_cons_succ, List.getElem_cons_zero, List.setIfInBounds_toArray, List.set_cons_zero, List.set_cons_succ]
        refine wpAnyH_take (i := 12) (oi := _) (v := undef) rfl (by kernel_rfl) (by kernel_rfl) (by kernel_rfl) (fun _ _ _ h => h) (Or.inr ⟨by kernel_rfl, rfl⟩) (by assumption) ?_
        try simp only [Act.put, List.getElem_toArray, List.getElem_cons_succ, List.getElem_cons_zero, List.setIfInBounds_toArray, List.set_cons_zero, List.set_cons_succ]
        refine wpAnyH_take (i := 13) (oi := _) (v := ?_) rfl (by kernel_rfl) (by kernel_rfl) (by kernel_rfl) (fun _ _ _ h => h) (Or.inl ⟨by rfl, ?_⟩) (by assumption) ?_
        (rotate_left); (focus (intro wv hSw; (obtain ⟨qP, qQ, qR, qB⟩ := hSw);  go_simp; (try with_reducible rfl)))
        try simp only [Act.put, List.getElem_toArray, List.getElem_cons_succ, List.getElem_cons_zero, List.setIfInBounds_toArray, List.set_cons_zero, List.set_cons_succ]
        refine wpAnyH_done (by kernel_rfl) ?_ _
        obtain ⟨p30, p31, _, _, zp3⟩ := blk2 hP_0c
        obtain ⟨r30, r31, fr30, fr31, zr3⟩ := blk2 hR_0c
        have hZ := blk2_set (a := .bool false) (b := .int .i64 (t + 1)) hR_0c
        obtain ⟨y0, y1, _⟩ := blk2 hZ
        go_wp2
        exact bodyPost_ret (v := .agg #[.bool false, .int .i64 (t + 1)]) (by simp [results, Tryz.results64, go_sem, y0, y1]) rfl ⟨rfl, store2_bel hB_0c (by omega) _ _⟩
      · rw [(ps_st HS.out).1, (ps_st HS.out).2]
        rw [show min (t + 1) 20 = 20 by omega]
        clear HS
        go_enter Tryz.func64, Tryz.ntmps64
        go_wp2_with fail
        refine (sBl_is _ HT.out).mono ?_; rintro E w1 ⟨rfl, hw1⟩
        obtain ⟨hP1, hQ1, hR1, hB1⟩ := ownb3 hw1
        obtain ⟨p10, p11, _, _, zp1⟩ := blk2 hP1
        obtain ⟨q10, q11, _, _, zq1⟩ := blk2 hQ1
        obtain ⟨r10, r11, fr10, fr11, zr1⟩ := blk2 hR1
        go_wp2_with fail
        refine (sBd_is _ HB.out).mono ?_; rintro E w2 ⟨rfl, hw2⟩
        have hP2 := blk_next hP1 hw2
        have hQ2 := blk_next hQ1 hw2
        have hR2 := blk_next hR1 hw2
        have hB2 := bel_next hB1 hw2
        obtain ⟨p20, p21, _, _, zp2⟩ := blk2 hP2
        obtain ⟨q20, q21, _, _, zq2⟩ := blk2 hQ2
        obtain ⟨r20, r21, fr20, fr21, zr2⟩ := blk2 hR2
        go_wp2_with fail
        refine (sIn7_is _ HP.out).mono ?_; rintro E w' ⟨rfl, rfl⟩
        go_wp2_with fail
        refine wp_region_held_drew (S := (fun w' => w'.heap[w.heap.size]? = some (.cells #[.bool false, .int .i64 t] 31) ∧ w'.heap[w.heap.size + 1]? = some (.cells #[.int .i64 lo, .int .i64 hi] 29) ∧ w'.heap[w.heap.size + 1 + 1]? = some (.cells #[.bool false, .int .i64 0] 31) ∧ Below w.heap.size w w')) (by kernel_rfl) ⟨hP2, hQ2, hR2, hB2.drew⟩ (fun hHeld => ?_)
        obtain ⟨hP_0, hQ_0, hR_0, hB_0⟩ := id hHeld
        refine wpAnyH_take (i := 0) (oi := _) (v := ?_) rfl (by kernel_rfl) (by kernel_rfl) (by kernel_rfl) (fun _ _ _ h => h) (Or.inl ⟨by rfl, ?_⟩) (by assumption) ?_
        (rotate_left); (focus (intro wv hSw; (obtain ⟨qP, qQ, qR, qB⟩ := hSw);  go_simp; (try with_reducible rfl)))
        try simp only [Act.put, List.getElem_toArray, List.getElem_cons_succ, List.getElem_cons_zero, List.setIfInBounds_toArray, List.set_cons_zero, List.set_cons_succ]
        refine wpAnyH_take (i := 1) (oi := _) (v := ?_) rfl (by kernel_rfl) (by kernel_rfl) (by kernel_rfl) (fun _ _ _ h => h) (Or.inl ⟨by rfl, ?_⟩) (by assumption) ?_
        (rotate_left); (focus (intro wv hSw; (obtain ⟨qP, qQ, qR, qB⟩ := hSw); obtain ⟨u0, u1, _, _, _⟩ := blk2 qP; go_simp; (try with_reducible rfl)))
        try simp only [Act.put, List.getElem_toArray, List.getElem_cons_succ, List.getElem_cons_zero, List.setIfInBounds_toArray, List.set_cons_zero, List.set_cons_succ]
        refine wpAnyH_take (i := 2) (oi := _) (v := ?_) rfl (by kernel_rfl) (by kernel_rfl) (by kernel_rfl) (fun _ _ _ h => h) (Or.inl ⟨by rfl, ?_⟩) (by assumption) ?_
        (rotate_left); (focus (intro wv hSw; (obtain ⟨qP, qQ, qR, qB⟩ := hSw); obtain ⟨u0, u1, _, _, _⟩ := blk2 qQ; go_simp; (try with_reducible rfl)))
        try simp only [Act.put, List.getElem_toArray, List.getElem_cons_succ, List.getElem_cons_zero, List.setIfInBounds_toArray, List.set_cons_zero, List.set_cons_succ]
        refine wpAnyH_take (i := 3) (oi := _) (v := ?_) rfl (by kernel_rfl) (by kernel_rfl) (by kernel_rfl) (fun _ _ _ h => h) (Or.inl ⟨by rfl, ?_⟩) (by assumption) ?_
        (rotate_left); (focus (intro wv hSw; (obtain ⟨qP, qQ, qR, qB⟩ := hSw);  go_simp; (try with_reducible rfl)))
        try simp only [Act.put, List.getElem_toArray, List.getElem_cons_succ, List.getElem_cons_zero, List.setIfInBounds_toArray, List.set_cons_zero, List.set_cons_succ]
        refine wpAnyH_take (i := 5) (oi := _) (v := ?_) rfl (by kernel_rfl) (by kernel_rfl) (by kernel_rfl) (fun _ _ _ h => h) (Or.inl ⟨by rfl, ?_⟩) (by assumption) ?_
        (rotate_left); (focus (intro wv hSw; (obtain ⟨qP, qQ, qR, qB⟩ := hSw);  go_simp; (try with_reducible rfl)))
        try simp only [Act.put, List.getElem_toArray, List.getElem_cons_succ, List.getElem_cons_zero, List.setIfInBounds_toArray, List.set_cons_zero, List.set_cons_succ]
        refine wpAnyH_take (i := 6) (oi := _) (v := ?_) rfl (by kernel_rfl) (by kernel_rfl) (by kernel_rfl) (fun _ _ _ h => h) (Or.inl ⟨by rfl, ?_⟩) (by assumption) ?_
        (rotate_left); (focus (intro wv hSw; (obtain ⟨qP, qQ, qR, qB⟩ := hSw); obtain ⟨u0, u1, _, _, _⟩ := blk2 qP; go_simp; (try with_reducible rfl)))
        try simp only [Act.put, List.getElem_toArray, List.getElem_cons_succ, List.getElem_cons_zero, List.setIfInBounds_toArray, List.set_cons_zero, List.set_cons_succ]
        refine wpAnyH_ready (rs := [4]) (by kernel_rfl) (by simp) ?_
        refine AllReadyH.cons (o := _) rfl (fun K hK => ?_) AllReadyH.nil
        go_simp
        (go_at_call 116; refine (sBq_is _ HX.out).mono ?_; rintro e x0c ⟨rfl, hw_0c⟩)
        refine hK.out _ _ ⟨blk_next hP_0 hw_0c, blk_next hQ_0 hw_0c, blk_next hR_0 hw_0c, bel_next hB_0 hw_0c⟩ (fun hHeld => ?_)
        clear hK K
        try simp only [Act.put, List.getElem_toArray, List.getElem_cons_succ, List.getElem_cons_zero, List.setIfInBounds_toArray, List.set_cons_zero, List.set_cons_succ]
        obtain ⟨hP_0c, hQ_0c, hR_0c, hB_0c⟩ := id hHeld
        refine wpAnyH_take (i := 7) (oi := _) (v := ?_) rfl (by kernel_rfl) (by kernel_rfl) (by kernel_rfl) (fun _ _ _ h => h) (Or.inl ⟨by rfl, ?_⟩) (by assumption) ?_
        (rotate_left); (focus (intro wv hSw; (obtain ⟨qP, qQ, qR, qB⟩ := hSw);  go_simp; (try with_reducible rfl)))
        try simp only [Act.put, List.getElem_toArray, List.getElem_cons_succ, List.getElem_cons_zero, List.setIfInBounds_toArray, List.set_cons_zero, List.set_cons_succ]
        refine wpAnyH_take (i := 8) (oi := _) (v := ?_) rfl (by kernel_rfl) (by kernel_rfl) (by kernel_rfl) (fun _ _ _ h => h) (Or.inl ⟨by rfl, ?_⟩) (by assumption) ?_
        (rotate_left); (focus (intro wv hSw; (obtain ⟨qP, qQ, qR, qB⟩ := hSw);  go_simp; (try with_reducible rfl)))
        try simp only [Act.put, List.getElem_toArray, List.getElem_cons_succ, List.getElem_cons_zero, List.setIfInBounds_toArray, List.set_cons_zero, List.set_cons_succ]
        refine wpAnyH_take (i := 9) (oi := _) (v := undef) rfl (by kernel_rfl) (by kernel_rfl) (by kernel_rfl) (fun _ _ _ h => h) (Or.inr ⟨by kernel_rfl, rfl⟩) (by assumption) ?_
        try simp only [Act.put, List.getElem_toArray, List.getElem_cons_succ, List.getElem_cons_zero, List.setIfInBounds_toArray, List.set_cons_zero, List.set_cons_succ]
        refine wpAnyH_take (i := 10) (oi := _) (v := undef) rfl (by kernel_rfl) (by kernel_rfl) (by kernel_rfl) (fun _ _ _ h => h) (Or.inr ⟨by kernel_rfl, rfl⟩) (by assumption) ?_
        try simp only [Act.put, List.getElem_toArray, List.getElem_cons_succ, List.getElem_cons_zero, List.setIfInBounds_toArray, List.set_cons_zero, List.set_cons_succ]
        refine wpAnyH_take (i := 11) (oi := _) (v := undef) rfl (by kernel_rfl) (by kernel_rfl) (by kernel_rfl) (fun _ _ _ h => h) (Or.inr ⟨by kernel_rfl, rfl⟩) (by assumption) ?_
        try simp only [Act.put, List.getElem_toArray, List.getElem_cons_succ, List.getElem_cons_zero, List.setIfInBounds_toArray, List.set_cons_zero, List.set_cons_succ]
        refine wpAnyH_take (i := 12) (oi := _) (v := undef) rfl (by kernel_rfl) (by kernel_rfl) (by kernel_rfl) (fun _ _ _ h => h) (Or.inr ⟨by kernel_rfl, rfl⟩) (by assumption) ?_
        try simp only [Act.put, List.getElem_toArray, List.getElem_cons_succ, List.getElem_cons_zero, List.setIfInBounds_toArray, List.set_cons_zero, List.set_cons_succ]
        refine wpAnyH_take (i := 13) (oi := _) (v := ?_) rfl (by kernel_rfl) (by kernel_rfl) (by kernel_rfl) (fun _ _ _ h => h) (Or.inl ⟨by rfl, ?_⟩) (by assumption) ?_
        (rotate_left); (focus (intro wv hSw; (obtain ⟨qP, qQ, qR, qB⟩ := hSw);  go_simp; (try with_reducible rfl)))
        try simp only [Act.put, List.getElem_toArray, List.getElem_cons_succ, List.getElem_cons_zero, List.setIfInBounds_toArray, List.set_cons_zero, List.set_cons_succ]
        refine wpAnyH_done (by kernel_rfl) ?_ _
        obtain ⟨p30, p31, _, _, zp3⟩ := blk2 hP_0c
        obtain ⟨r30, r31, fr30, fr31, zr3⟩ := blk2 hR_0c
        have hZ := blk2_set (a := .bool false) (b := .int .i64 (20)) hR_0c
        obtain ⟨y0, y1, _⟩ := blk2 hZ
        go_wp2
        exact bodyPost_ret (v := .agg #[.bool false, .int .i64 (20)]) (by simp [results, Tryz.results64, go_sem, y0, y1]) rfl ⟨rfl, store2_bel hB_0c (by omega) _ _⟩
    · by_cases hpt : p ≤ t
      · rw [(ps_mv HS.out (by omega)).1, (ps_mv HS.out (by omega)).2]
        show Calls _ _ _ _ fun E w' => E = .returned (.agg #[.bool true, .int .i64 0]) ∧ _
        clear HS
        go_enter Tryz.func64, Tryz.ntmps64
        go_wp2_with fail
        refine (sBl_is _ HT.out).mono ?_; rintro E w1 ⟨rfl, hw1⟩
        obtain ⟨hP1, hQ1, hR1, hB1⟩ := ownb3 hw1
        obtain ⟨p10, p11, _, _, zp1⟩ := blk2 hP1
        obtain ⟨q10, q11, _, _, zq1⟩ := blk2 hQ1
        obtain ⟨r10, r11, fr10, fr11, zr1⟩ := blk2 hR1
        go_wp2_with fail
        refine (sBd_is _ HB.out).mono ?_; rintro E w2 ⟨rfl, hw2⟩
        have hP2 := blk_next hP1 hw2
        have hQ2 := blk_next hQ1 hw2
        have hR2 := blk_next hR1 hw2
        have hB2 := bel_next hB1 hw2
        obtain ⟨p20, p21, _, _, zp2⟩ := blk2 hP2
        obtain ⟨q20, q21, _, _, zq2⟩ := blk2 hQ2
        obtain ⟨r20, r21, fr20, fr21, zr2⟩ := blk2 hR2
        go_wp2_with fail
        refine (sIn7_is _ HP.out).mono ?_; rintro E w' ⟨rfl, rfl⟩
        have d1 : decide (p ≤ t) = true := decide_eq_true (by omega)
        go_wp2_with fail
        refine wp_region_held_drew (S := (fun w' => w'.heap[w.heap.size]? = some (.cells #[.bool false, .int .i64 t] 31) ∧ w'.heap[w.heap.size + 1]? = some (.cells #[.int .i64 lo, .int .i64 hi] 29) ∧ w'.heap[w.heap.size + 1 + 1]? = some (.cells #[.bool false, .int .i64 0] 31) ∧ Below w.heap.size w w')) (by kernel_rfl) ⟨hP2, hQ2, hR2, hB2.drew⟩ (fun hHeld => ?_)
        obtain ⟨hP_0, hQ_0, hR_0, hB_0⟩ := id hHeld
        refine wpAnyH_take (i := 0) (oi := _) (v := ?_) rfl (by kernel_rfl) (by kernel_rfl) (by kernel_rfl) (fun _ _ _ h => h) (Or.inl ⟨by rfl, ?_⟩) (by assumption) ?_
        (rotate_left); (focus (intro wv hSw; (obtain ⟨qP, qQ, qR, qB⟩ := hSw);  go_simp; (try with_reducible rfl)))
        try simp only [Act.put, List.getElem_toArray, List.getElem_cons_succ, List.getElem_cons_zero, List.setIfInBounds_toArray, List.set_cons_zero, List.set_cons_succ]
        refine wpAnyH_take (i := 1) (oi := _) (v := ?_) rfl (by kernel_rfl) (by kernel_rfl) (by kernel_rfl) (fun _ _ _ h => h) (Or.inl ⟨by rfl, ?_⟩) (by assumption) ?_
        (rotate_left); (focus (intro wv hSw; (obtain ⟨qP, qQ, qR, qB⟩ := hSw); obtain ⟨u0, u1, _, _, _⟩ := blk2 qP; go_simp; (try with_reducible rfl)))
        try simp only [Act.put, List.getElem_toArray, List.getElem_cons_succ, List.getElem_cons_zero, List.setIfInBounds_toArray, List.set_cons_zero, List.set_cons_succ]
        refine wpAnyH_take (i := 2) (oi := _) (v := ?_) rfl (by kernel_rfl) (by kernel_rfl) (by kernel_rfl) (fun _ _ _ h => h) (Or.inl ⟨by rfl, ?_⟩) (by assumption) ?_
        (rotate_left); (focus (intro wv hSw; (obtain ⟨qP, qQ, qR, qB⟩ := hSw); obtain ⟨u0, u1, _, _, _⟩ := blk2 qQ; go_simp; (try with_reducible rfl)))
        try simp only [Act.put, List.getElem_toArray, List.getElem_cons_succ, List.getElem_cons_zero, List.setIfInBounds_toArray, List.set_cons_zero, List.set_cons_succ]
        refine wpAnyH_take (i := 3) (oi := _) (v := ?_) rfl (by kernel_rfl) (by kernel_rfl) (by kernel_rfl) (fun _ _ _ h => h) (Or.inl ⟨by rfl, ?_⟩) (by assumption) ?_
        (rotate_left); (focus (intro wv hSw; (obtain ⟨qP, qQ, qR, qB⟩ := hSw);  go_simp; (try with_reducible rfl)))
        try simp only [Act.put, List.getElem_toArray, List.getElem_cons_succ, List.getElem_cons_zero, List.setIfInBounds_toArray, List.set_cons_zero, List.set_cons_succ]
        refine wpAnyH_take (i := 5) (oi := _) (v := ?_) rfl (by kernel_rfl) (by kernel_rfl) (by kernel_rfl) (fun _ _ _ h => h) (Or.inl ⟨by rfl, ?_⟩) (by assumption) ?_
        (rotate_left); (focus (intro wv hSw; (obtain ⟨qP, qQ, qR, qB⟩ := hSw);  go_simp; (try with_reducible rfl)))
        try simp only [Act.put, List.getElem_toArray, List.getElem_cons_succ, List.getElem_cons_zero, List.setIfInBounds_toArray, List.set_cons_zero, List.set_cons_succ]
        refine wpAnyH_take (i := 6) (oi := _) (v := ?_) rfl (by kernel_rfl) (by kernel_rfl) (by kernel_rfl) (fun _ _ _ h => h) (Or.inl ⟨by rfl, ?_⟩) (by assumption) ?_
        (rotate_left); (focus (intro wv hSw; (obtain ⟨qP, qQ, qR, qB⟩ := hSw); obtain ⟨u0, u1, _, _, _⟩ := blk2 qP; go_simp; (try with_reducible rfl)))
        try simp only [Act.put, List.getElem_toArray, List.getElem_cons_succ, List.getElem_cons_zero, List.setIfInBounds_toArray, List.set_cons_zero, List.set_cons_succ]
        refine wpAnyH_ready (rs := [4]) (by kernel_rfl) (by simp) ?_
        refine AllReadyH.cons (o := _) rfl (fun K hK => ?_) AllReadyH.nil
        go_simp
        (go_at_call 116; refine (sBq_is _ HX.out).mono ?_; rintro e x0c ⟨rfl, hw_0c⟩)
        refine hK.out _ _ ⟨blk_next hP_0 hw_0c, blk_next hQ_0 hw_0c, blk_next hR_0 hw_0c, bel_next hB_0 hw_0c⟩ (fun hHeld => ?_)
        clear hK K
        try simp only [Act.put, List.getElem_toArray, List.getElem_cons_succ, List.getElem_cons_zero, List.setIfInBounds_toArray, List.set_cons_zero, List.set_cons_succ]
        obtain ⟨hP_0c, hQ_0c, hR_0c, hB_0c⟩ := id hHeld
        refine wpAnyH_take (i := 7) (oi := _) (v := ?_) rfl (by kernel_rfl) (by kernel_rfl) (by kernel_rfl) (fun _ _ _ h => h) (Or.inl ⟨by rfl, ?_⟩) (by assumption) ?_
        (rotate_left); (focus (intro wv hSw; (obtain ⟨qP, qQ, qR, qB⟩ := hSw);  go_simp; (try with_reducible rfl)))
        try simp only [Act.put, List.getElem_toArray, List.getElem_cons_succ, List.getElem_cons_zero, List.setIfInBounds_toArray, List.set_cons_zero, List.set_cons_succ]
        refine wpAnyH_take (i := 8) (oi := _) (v := ?_) rfl (by kernel_rfl) (by kernel_rfl) (by kernel_rfl) (fun _ _ _ h => h) (Or.inl ⟨by rfl, ?_⟩) (by assumption) ?_
        (rotate_left); (focus (intro wv hSw; (obtain ⟨qP, qQ, qR, qB⟩ := hSw);  go_simp; (try with_reducible rfl)))
        try simp only [Act.put, List.getElem_toArray, List.getElem_cons_succ, List.getElem_cons_zero, List.setIfInBounds_toArray, List.set_cons_zero, List.set_cons_succ]
        refine wpAnyH_take (i := 9) (oi := _) (v := ?_) rfl (by kernel_rfl) (by kernel_rfl) (by kernel_rfl) (fun _ _ _ h => h) (Or.inl ⟨by rfl, ?_⟩) (by assumption) ?_
        (rotate_left); (focus (intro wv hSw; (obtain ⟨qP, qQ, qR, qB⟩ := hSw);  go_simp; (try with_reducible rfl)))
        try simp only [Act.put, List.getElem_toArray, List.getElem_cons_succ, List.getElem_cons_zero, List.setIfInBounds_toArray, List.set_cons_zero, List.set_cons_succ]
        refine wpAnyH_take (i := 10) (oi := _) (v := ?_) rfl (by kernel_rfl) (by kernel_rfl) (by kernel_rfl) (fun _ _ _ h => h) (Or.inl ⟨by rfl, ?_⟩) (by assumption) ?_
        (rotate_left); (focus (intro wv hSw; (obtain ⟨qP, qQ, qR, qB⟩ := hSw); obtain ⟨u0, u1, _, _, _⟩ := blk2 qP; go_simp; (try with_reducible rfl)))
        try simp only [Act.put, List.getElem_toArray, List.getElem_cons_succ, List.getElem_cons_zero, List.setIfInBounds_toArray, List.set_cons_zero, List.set_cons_succ]
        refine wpAnyH_take (i := 11) (oi := _) (v := ?_) rfl (by kernel_rfl) (by kernel_rfl) (by kernel_rfl) (fun _ _ _ h => h) (Or.inl ⟨by rfl, ?_⟩) (by assumption) ?_
        (rotate_left); (focus (intro wv hSw; (obtain ⟨qP, qQ, qR, qB⟩ := hSw);  go_simp; (try with_reducible rfl)))
        try simp only [Act.put, List.getElem_toArray, List.getElem_cons_succ, List.getElem_cons_zero, List.setIfInBounds_toArray, List.set_cons_zero, List.set_cons_succ]
        refine wpAnyH_take (i := 12) (oi := _) (v := ?_) rfl (by kernel_rfl) (by kernel_rfl) (by kernel_rfl) (fun _ _ _ h => h) (Or.inl ⟨by rfl, ?_⟩) (by assumption) ?_
        (rotate_left); (focus (intro wv hSw; (obtain ⟨qP, qQ, qR, qB⟩ := hSw);  go_simp; (try with_reducible rfl)))
        try simp only [Act.put, List.getElem_toArray, List.getElem_cons_succ, List.getElem_cons_zero, List.setIfInBounds_toArray, List.set_cons_zero, List.set_cons_succ]
        refine wpAnyH_take (i := 13) (oi := _) (v := ?_) rfl (by kernel_rfl) (by kernel_rfl) (by kernel_rfl) (fun _ _ _ h => h) (Or.inl ⟨by rfl, ?_⟩) (by assumption) ?_
        (rotate_left); (focus (intro wv hSw; (obtain ⟨qP, qQ, qR, qB⟩ := hSw);  go_simp; (try with_reducible rfl)))
        try simp only [Act.put, List.getElem_toArray, List.getElem_cons_succ, List.getElem_cons_zero, List.setIfInBounds_toArray, List.set_cons_zero, List.set_cons_succ]
        refine wpAnyH_done (by kernel_rfl) ?_ _
        obtain ⟨p30, p31, _, _, zp3⟩ := blk2 hP_0c
        obtain ⟨r30, r31, fr30, fr31, zr3⟩ := blk2 hR_0c
        have hZ := blk2_set (a := .bool true) (b := .int .i64 (0)) hR_0c
        obtain ⟨y0, y1, _⟩ := blk2 hZ
        go_wp2
        exact bodyPost_ret (v := .agg #[.bool true, .int .i64 (0)]) (by simp [results, Tryz.results64, go_sem, y0, y1]) rfl ⟨rfl, store2_bel hB_0c (by omega) _ _⟩
      · by_cases h20 : t ≤ 19
        · rw [(ps_wt (by omega)).1, (ps_wt (by omega)).2]
          rw [show min (t + 1) 20 = t + 1 by omega]
          clear HS
          go_enter Tryz.func64, Tryz.ntmps64
          go_wp2_with fail
          refine (sBl_is _ HT.out).mono ?_; rintro E w1 ⟨rfl, hw1⟩
          obtain ⟨hP1, hQ1, hR1, hB1⟩ := ownb3 hw1
          obtain ⟨p10, p11, _, _, zp1⟩ := blk2 hP1
          obtain ⟨q10, q11, _, _, zq1⟩ := blk2 hQ1
          obtain ⟨r10, r11, fr10, fr11, zr1⟩ := blk2 hR1
          go_wp2_with fail
          refine (sBd_is _ HB.out).mono ?_; rintro E w2 ⟨rfl, hw2⟩
          have hP2 := blk_next hP1 hw2
          have hQ2 := blk_next hQ1 hw2
          have hR2 := blk_next hR1 hw2
          have hB2 := bel_next hB1 hw2
          obtain ⟨p20, p21, _, _, zp2⟩ := blk2 hP2
          obtain ⟨q20, q21, _, _, zq2⟩ := blk2 hQ2
          obtain ⟨r20, r21, fr20, fr21, zr2⟩ := blk2 hR2
          go_wp2_with fail
          refine (sIn7_is _ HP.out).mono ?_; rintro E w' ⟨rfl, rfl⟩
          have d1 : decide (p ≤ t) = false := decide_eq_false (by omega)
          go_wp2_with fail
          refine wp_region_held_drew (S := (fun w' => w'.heap[w.heap.size]? = some (.cells #[.bool false, .int .i64 t] 31) ∧ w'.heap[w.heap.size + 1]? = some (.cells #[.int .i64 lo, .int .i64 hi] 29) ∧ w'.heap[w.heap.size + 1 + 1]? = some (.cells #[.bool false, .int .i64 0] 31) ∧ Below w.heap.size w w')) (by kernel_rfl) ⟨hP2, hQ2, hR2, hB2.drew⟩ (fun hHeld => ?_)
          obtain ⟨hP_0, hQ_0, hR_0, hB_0⟩ := id hHeld
          refine wpAnyH_take (i := 0) (oi := _) (v := ?_) rfl (by kernel_rfl) (by kernel_rfl) (by kernel_rfl) (fun _ _ _ h => h) (Or.inl ⟨by rfl, ?_⟩) (by assumption) ?_
          (rotate_left); (focus (intro wv hSw; (obtain ⟨qP, qQ, qR, qB⟩ := hSw);  go_simp; (try with_reducible rfl)))
          try simp only [Act.put, List.getElem_toArray, List.getElem_cons_succ, List.getElem_cons_zero, List.setIfInBounds_toArray, List.set_cons_zero, List.set_cons_succ]
          refine wpAnyH_take (i := 1) (oi := _) (v := ?_) rfl (by kernel_rfl) (by kernel_rfl) (by kernel_rfl) (fun _ _ _ h => h) (Or.inl ⟨by rfl, ?_⟩) (by assumption) ?_
          (rotate_left); (focus (intro wv hSw; (obtain ⟨qP, qQ, qR, qB⟩ := hSw); obtain ⟨u0, u1, _, _, _⟩ := blk2 qP; go_simp; (try with_reducible rfl)))
          try simp only [Act.put, List.getElem_toArray, List.getElem_cons_succ, List.getElem_cons_zero, List.setIfInBounds_toArray, List.set_cons_zero, List.set_cons_succ]
          refine wpAnyH_take (i := 2) (oi := _) (v := ?_) rfl (by kernel_rfl) (by kernel_rfl) (by kernel_rfl) (fun _ _ _ h => h) (Or.inl ⟨by rfl, ?_⟩) (by assumption) ?_
          (rotate_left); (focus (intro wv hSw; (obtain ⟨qP, qQ, qR, qB⟩ := hSw); obtain ⟨u0, u1, _, _, _⟩ := blk2 qQ; go_simp; (try with_reducible rfl)))
          try simp only [Act.put, List.getElem_toArray, List.getElem_cons_succ, List.getElem_cons_zero, List.setIfInBounds_toArray, List.set_cons_zero, List.set_cons_succ]
          refine wpAnyH_take (i := 3) (oi := _) (v := ?_) rfl (by kernel_rfl) (by kernel_rfl) (by kernel_rfl) (fun _ _ _ h => h) (Or.inl ⟨by rfl, ?_⟩) (by assumption) ?_
          (rotate_left); (focus (intro wv hSw; (obtain ⟨qP, qQ, qR, qB⟩ := hSw);  go_simp; (try with_reducible rfl)))
          try simp only [Act.put, List.getElem_toArray, List.getElem_cons_succ, List.getElem_cons_zero, List.setIfInBounds_toArray, List.set_cons_zero, List.set_cons_succ]
          refine wpAnyH_take (i := 5) (oi := _) (v := ?_) rfl (by kernel_rfl) (by kernel_rfl) (by kernel_rfl) (fun _ _ _ h => h) (Or.inl ⟨by rfl, ?_⟩) (by assumption) ?_
          (rotate_left); (focus (intro wv hSw; (obtain ⟨qP, qQ, qR, qB⟩ := hSw);  go_simp; (try with_reducible rfl)))
          try simp only [Act.put, List.getElem_toArray, List.getElem_cons_succ, List.getElem_cons_zero, List.setIfInBounds_toArray, List.set_cons_zero, List.set_cons_succ]
          refine wpAnyH_take (i := 6) (oi := _) (v := ?_) rfl (by kernel_rfl) (by kernel_rfl) (by kernel_rfl) (fun _ _ _ h => h) (Or.inl ⟨by rfl, ?_⟩) (by assumption) ?_
          (rotate_left); (focus (intro wv hSw; (obtain ⟨qP, qQ, qR, qB⟩ := hSw); obtain ⟨u0, u1, _, _, _⟩ := blk2 qP; go_simp; (try with_reducible rfl)))
          try simp only [Act.put, List.getElem_toArray, List.getElem_cons_succ, List.getElem_cons_zero, List.setIfInBounds_toArray, List.set_cons_zero, List.set_cons_succ]
          refine wpAnyH_ready (rs := [4]) (by kernel_rfl) (by simp) ?_
          refine AllReadyH.cons (o := _) rfl (fun K hK => ?_) AllReadyH.nil
          go_simp
          (go_at_call 116; refine (sBq_is _ HX.out).mono ?_; rintro e x0c ⟨rfl, hw_0c⟩)
          refine hK.out _ _ ⟨blk_next hP_0 hw_0c, blk_next hQ_0 hw_0c, blk_next hR_0 hw_0c, bel_next hB_0 hw_0c⟩ (fun hHeld => ?_)
          clear hK K
          try simp only [Act.put, List.getElem_toArray, List.getElem_cons_succ, List.getElem_cons_zero, List.setIfInBounds_toArray, List.set_cons_zero, List.set_cons_succ]
          obtain ⟨hP_0c, hQ_0c, hR_0c, hB_0c⟩ := id hHeld
          refine wpAnyH_take (i := 7) (oi := _) (v := ?_) rfl (by kernel_rfl) (by kernel_rfl) (by kernel_rfl) (fun _ _ _ h => h) (Or.inl ⟨by rfl, ?_⟩) (by assumption) ?_
          (rotate_left); (focus (intro wv hSw; (obtain ⟨qP, qQ, qR, qB⟩ := hSw);  go_simp; (try with_reducible rfl)))
          try simp only [Act.put, List.getElem_toArray, List.getElem_cons_succ, List.getElem_cons_zero, List.setIfInBounds_toArray, List.set_cons_zero, List.set_cons_succ]
          refine wpAnyH_take (i := 8) (oi := _) (v := ?_) rfl (by kernel_rfl) (by kernel_rfl) (by kernel_rfl) (fun _ _ _ h => h) (Or.inl ⟨by rfl, ?_⟩) (by assumption) ?_
          (rotate_left); (focus (intro wv hSw; (obtain ⟨qP, qQ, qR, qB⟩ := hSw);  go_simp; (try with_reducible rfl)))
          try simp only [Act.put, List.getElem_toArray, List.getElem_cons_succ, List.getElem_cons_zero, List.setIfInBounds_toArray, List.set_cons_zero, List.set_cons_succ]
          refine wpAnyH_take (i := 9) (oi := _) (v := ?_) rfl (by kernel_rfl) (by kernel_rfl) (by kernel_rfl) (fun _ _ _ h => h) (Or.inl ⟨by rfl, ?_⟩) (by assumption) ?_
          (rotate_left); (focus (intro wv hSw; (obtain ⟨qP, qQ, qR, qB⟩ := hSw);  go_simp; (try with_reducible rfl)))
          try simp only [Act.put, List.getElem_toArray, List.getElem_cons_succ, List.getElem_cons_zero, List.setIfInBounds_toArray, List.set_cons_zero, List.set_cons_succ]
          refine wpAnyH_take (i := 10) (oi := _) (v := ?_) rfl (by kernel_rfl) (by kernel_rfl) (by kernel_rfl) (fun _ _ _ h => h) (Or.inl ⟨by rfl, ?_⟩) (by assumption) ?_
          (rotate_left); (focus (intro wv hSw; (obtain ⟨qP, qQ, qR, qB⟩ := hSw); obtain ⟨u0, u1, _, _, _⟩ := blk2 qP; go_simp; (try with_reducible rfl)))
          try simp only [Act.put, List.getElem_toArray, List.getElem_cons_succ, List.getElem_cons_zero, List.setIfInBounds_toArray, List.set_cons_zero, List.set_cons_succ]
          refine wpAnyH_take (i := 11) (oi := _) (v := ?_) rfl (by kernel_rfl) (by kernel_rfl) (by kernel_rfl) (fun _ _ _ h => h) (Or.inl ⟨by rfl, ?_⟩) (by assumption) ?_
          (rotate_left); (focus (intro wv hSw; (obtain ⟨qP, qQ, qR, qB⟩ := hSw);  go_simp; (try with_reducible rfl)))
          try simp only [Act.put, List.getElem_toArray, List.getElem_cons_succ, List.getElem_cons_zero, List.setIfInBounds_toArray, List.set_cons_zero, List.set_cons_succ]
          refine wpAnyH_take (i := 12) (oi := _) (v := ?_) rfl (by kernel_rfl) (by kernel_rfl) (by kernel_rfl) (fun _ _ _ h => h) (Or.inl ⟨by rfl, ?_⟩) (by assumption) ?_
          (rotate_left); (focus (intro wv hSw; (obtain ⟨qP, qQ, qR, qB⟩ := hSw);  go_simp; (try with_reducible rfl)))
          try simp only [Act.put, List.getElem_toArray, List.getElem_cons_succ, List.getElem_cons_zero, List.setIfInBounds_toArray, List.set_cons_zero, List.set_cons_succ]
          refine wpAnyH_take (i := 13) (oi := _) (v := ?_) rfl (by kernel_rfl) (by kernel_rfl) (by kernel_rfl) (fun _ _ _ h => h) (Or.inl ⟨by rfl, ?_⟩) (by assumption) ?_
          (rotate_left); (focus (intro wv hSw; (obtain ⟨qP, qQ, qR, qB⟩ := hSw);  go_simp; (try with_reducible rfl)))
          try simp only [Act.put, List.getElem_toArray, List.getElem_cons_succ, List.getElem_cons_zero, List.setIfInBounds_toArray, List.set_cons_zero, List.set_cons_succ]
          refine wpAnyH_done (by kernel_rfl) ?_ _
          obtain ⟨p30, p31, _, _, zp3⟩ := blk2 hP_0c
          obtain ⟨r30, r31, fr30, fr31, zr3⟩ := blk2 hR_0c
          have hZ := blk2_set (a := .bool false) (b := .int .i64 (t + 1)) hR_0c
          obtain ⟨y0, y1, _⟩ := blk2 hZ
          go_wp2
          exact bodyPost_ret (v := .agg #[.bool false, .int .i64 (t + 1)]) (by simp [results, Tryz.results64, go_sem, y0, y1]) rfl ⟨rfl, store2_bel hB_0c (by omega) _ _⟩
        · exact absurd hpt (by omega)
    · by_cases hpt : p ≤ t
      · rw [(ps_mv HS.out (by omega)).1, (ps_mv HS.out (by omega)).2]
        show Calls _ _ _ _ fun E w' => E = .returned (.agg #[.bool false, .int .i64 0]) ∧ _
        clear HS
        go_enter Tryz.func64, Tryz.ntmps64
        go_wp2_with fail
        refine (sBl_is _ HT.out).mono ?_; rintro E w1 ⟨rfl, hw1⟩
        obtain ⟨hP1, hQ1, hR1, hB1⟩ := ownb3 hw1
        obtain ⟨p10, p11, _, _, zp1⟩ := blk2 hP1
        obtain ⟨q10, q11, _, _, zq1⟩ := blk2 hQ1
        obtain ⟨r10, r11, fr10, fr11, zr1⟩ := blk2 hR1
        go_wp2_with fail
        refine (sBd_is _ HB.out).mono ?_; rintro E w2 ⟨rfl, hw2⟩
        have hP2 := blk_next hP1 hw2
        have hQ2 := blk_next hQ1 hw2
        have hR2 := blk_next hR1 hw2
        have hB2 := bel_next hB1 hw2
        obtain ⟨p20, p21, _, _, zp2⟩ := blk2 hP2
        obtain ⟨q20, q21, _, _, zq2⟩ := blk2 hQ2
        obtain ⟨r20, r21, fr20, fr21, zr2⟩ := blk2 hR2
        go_wp2_with fail
        refine (sIn7_is _ HP.out).mono ?_; rintro E w' ⟨rfl, rfl⟩
        have d1 : decide (p ≤ t) = true := decide_eq_true (by omega)
        go_wp2_with fail
        refine wp_region_held_drew (S := (fun w' => w'.heap[w.heap.size]? = some (.cells #[.bool true, .int .i64 t] 31) ∧ w'.heap[w.heap.size + 1]? = some (.cells #[.int .i64 lo, .int .i64 hi] 29) ∧ w'.heap[w.heap.size + 1 + 1]? = some (.cells #[.bool false, .int .i64 0] 31) ∧ Below w.heap.size w w')) (by kernel_rfl) ⟨hP2, hQ2, hR2, hB2.drew⟩ (fun hHeld => ?_)
        obtain ⟨hP_0, hQ_0, hR_0, hB_0⟩ := id hHeld
        refine wpAnyH_take (i := 0) (oi := _) (v := ?_) rfl (by kernel_rfl) (by kernel_rfl) (by kernel_rfl) (fun _ _ _ h => h) (Or.inl ⟨by rfl, ?_⟩) (by assumption) ?_
        (rotate_left); (focus (intro wv hSw; (obtain ⟨qP, qQ, qR, qB⟩ := hSw);  go_simp; (try with_reducible rfl)))
        try simp only [Act.put, List.getElem_toArray, List.getElem_cons_succ, List.getElem_cons_zero, List.setIfInBounds_toArray, List.set_cons_zero, List.set_cons_succ]
        refine wpAnyH_take (i := 1) (oi := _) (v := ?_) rfl (by kernel_rfl) (by kernel_rfl) (by kernel_rfl) (fun _ _ _ h => h) (Or.inl ⟨by rfl, ?_⟩) (by assumption) ?_
        (rotate_left); (focus (intro wv hSw; (obtain ⟨qP, qQ, qR, qB⟩ := hSw); obtain ⟨u0, u1, _, _, _⟩ := blk2 qP; go_simp; (try with_reducible rfl)))
        try simp only [Act.put, List.getElem_toArray, List.getElem_cons_succ, List.getElem_cons_zero, List.setIfInBounds_toArray, List.set_cons_zero, List.set_cons_succ]
        refine wpAnyH_take (i := 2) (oi := _) (v := ?_) rfl (by kernel_rfl) (by kernel_rfl) (by kernel_rfl) (fun _ _ _ h => h) (Or.inl ⟨by rfl, ?_⟩) (by assumption) ?_
        (rotate_left); (focus (intro wv hSw; (obtain ⟨qP, qQ, qR, qB⟩ := hSw); obtain ⟨u0, u1, _, _, _⟩ := blk2 qQ; go_simp; (try with_reducible rfl)))
        try simp only [Act.put, List.getElem_toArray, List.getElem_cons_succ, List.getElem_cons_zero, List.setIfInBounds_toArray, List.set_cons_zero, List.set_cons_succ]
        refine wpAnyH_take (i := 3) (oi := _) (v := ?_) rfl (by kernel_rfl) (by kernel_rfl) (by kernel_rfl) (fun _ _ _ h => h) (Or.inl ⟨by rfl, ?_⟩) (by assumption) ?_
        (rotate_left); (focus (intro wv hSw; (obtain ⟨qP, qQ, qR, qB⟩ := hSw);  go_simp; (try with_reducible rfl)))
        try simp only [Act.put, List.getElem_toArray, List.getElem_cons_succ, List.getElem_cons_zero, List.setIfInBounds_toArray, List.set_cons_zero, List.set_cons_succ]
        refine wpAnyH_take (i := 5) (oi := _) (v := ?_) rfl (by kernel_rfl) (by kernel_rfl) (by kernel_rfl) (fun _ _ _ h => h) (Or.inl ⟨by rfl, ?_⟩) (by assumption) ?_
        (rotate_left); (focus (intro wv hSw; (obtain ⟨qP, qQ, qR, qB⟩ := hSw);  go_simp; (try with_reducible rfl)))
        try simp only [Act.put, List.getElem_toArray, List.getElem_cons_succ, List.getElem_cons_zero, List.setIfInBounds_toArray, List.set_cons_zero, List.set_cons_succ]
        refine wpAnyH_take (i := 6) (oi := _) (v := ?_) rfl (by kernel_rfl) (by kernel_rfl) (by kernel_rfl) (fun _ _ _ h => h) (Or.inl ⟨by rfl, ?_⟩) (by assumption) ?_
        (rotate_left); (focus (intro wv hSw; (obtain ⟨qP, qQ, qR, qB⟩ := hSw); obtain ⟨u0, u1, _, _, _⟩ := blk2 qP; go_simp; (try with_reducible rfl)))
        try simp only [Act.put, List.getElem_toArray, List.getElem_cons_succ, List.getElem_cons_zero, List.setIfInBounds_toArray, List.set_cons_zero, List.set_cons_succ]
        refine wpAnyH_ready (rs := [4]) (by kernel_rfl) (by simp) ?_
        refine AllReadyH.cons (o := _) rfl (fun K hK => ?_) AllReadyH.nil
        go_simp
        (go_at_call 116; refine (sBq_is _ HX.out).mono ?_; rintro e x0c ⟨rfl, hw_0c⟩)
        refine hK.out _ _ ⟨blk_next hP_0 hw_0c, blk_next hQ_0 hw_0c, blk_next hR_0 hw_0c, bel_next hB_0 hw_0c⟩ (fun hHeld => ?_)
        clear hK K
        try simp only [Act.put, List.getElem_toArray, List.getElem_cons_succ, List.getElem_cons_zero, List.setIfInBounds_toArray, List.set_cons_zero, List.set_cons_succ]
        obtain ⟨hP_0c, hQ_0c, hR_0c, hB_0c⟩ := id hHeld
        refine wpAnyH_take (i := 7) (oi := _) (v := ?_) rfl (by kernel_rfl) (by kernel_rfl) (by kernel_rfl) (fun _ _ _ h => h) (Or.inl ⟨by rfl, ?_⟩) (by assumption) ?_
        (rotate_left); (focus (intro wv hSw; (obtain ⟨qP, qQ, qR, qB⟩ := hSw);  go_simp; (try with_reducible rfl)))
        try simp only [Act.put, List.getElem_toArray, List.getElem_cons_succ, List.getElem_cons_zero, List.setIfInBounds_toArray, List.set_cons_zero, List.set_cons_succ]
        refine wpAnyH_take (i := 8) (oi := _) (v := ?_) rfl (by kernel_rfl) (by kernel_rfl) (by kernel_rfl) (fun _ _ _ h => h) (Or.inl ⟨by rfl, ?_⟩) (by assumption) ?_
        (rotate_left); (focus (intro wv hSw; (obtain ⟨qP, qQ, qR, qB⟩ := hSw);  go_simp; (try with_reducible rfl)))
        try simp only [Act.put, List.getElem_toArray, List.getElem_cons_succ, List.getElem_cons_zero, List.setIfInBounds_toArray, List.set_cons_zero, List.set_cons_succ]
        refine wpAnyH_take (i := 9) (oi := _) (v := ?_) rfl (by kernel_rfl) (by kernel_rfl) (by kernel_rfl) (fun _ _ _ h => h) (Or.inl ⟨by rfl, ?_⟩) (by assumption) ?_
        (rotate_left); (focus (intro wv hSw; (obtain ⟨qP, qQ, qR, qB⟩ := hSw);  go_simp; (try with_reducible rfl)))
        try simp only [Act.put, List.getElem_toArray, List.getElem_cons_succ, List.getElem_cons_zero, List.setIfInBounds_toArray, List.set_cons_zero, List.set_cons_succ]
        refine wpAnyH_take (i := 10) (oi := _) (v := ?_) rfl (by kernel_rfl) (by kernel_rfl) (by kernel_rfl) (fun _ _ _ h => h) (Or.inl ⟨by rfl, ?_⟩) (by assumption) ?_
        (rotate_left); (focus (intro wv hSw; (obtain ⟨qP, qQ, qR, qB⟩ := hSw); obtain ⟨u0, u1, _, _, _⟩ := blk2 qP; go_simp; (try with_reducible rfl)))
        try simp only [Act.put, List.getElem_toArray, List.getElem_cons_succ, List.getElem_cons_zero, List.setIfInBounds_toArray, List.set_cons_zero, List.set_cons_succ]
        refine wpAnyH_take (i := 11) (oi := _) (v := ?_) rfl (by kernel_rfl) (by kernel_rfl) (by kernel_rfl) (fun _ _ _ h => h) (Or.inl ⟨by rfl, ?_⟩) (by assumption) ?_
        (rotate_left); (focus (intro wv hSw; (obtain ⟨qP, qQ, qR, qB⟩ := hSw);  go_simp; (try with_reducible rfl)))
        try simp only [Act.put, List.getElem_toArray, List.getElem_cons_succ, List.getElem_cons_zero, List.setIfInBounds_toArray, List.set_cons_zero, List.set_cons_succ]
        refine wpAnyH_take (i := 12) (oi := _) (v := ?_) rfl (by kernel_rfl) (by kernel_rfl) (by kernel_rfl) (fun _ _ _ h => h) (Or.inl ⟨by rfl, ?_⟩) (by assumption) ?_
        (rotate_left); (focus (intro wv hSw; (obtain ⟨qP, qQ, qR, qB⟩ := hSw);  go_simp; (try with_reducible rfl)))
        try simp only [Act.put, List.getElem_toArray, List.getElem_cons_succ, List.getElem_cons_zero, List.setIfInBounds_toArray, List.set_cons_zero, List.set_cons_succ]
        refine wpAnyH_take (i := 13) (oi := _) (v := ?_) rfl (by kernel_rfl) (by kernel_rfl) (by kernel_rfl) (fun _ _ _ h => h) (Or.inl ⟨by rfl, ?_⟩) (by assumption) ?_
        (rotate_left); (focus (intro wv hSw; (obtain ⟨qP, qQ, qR, qB⟩ := hSw);  go_simp; (try with_reducible rfl)))
        try simp only [Act.put, List.getElem_toArray, List.getElem_cons_succ, List.getElem_cons_zero, List.setIfInBounds_toArray, List.set_cons_zero, List.set_cons_succ]
        refine wpAnyH_done (by kernel_rfl) ?_ _
        obtain ⟨p30, p31, _, _, zp3⟩ := blk2 hP_0c
        obtain ⟨r30, r31, fr30, fr31, zr3⟩ := blk2 hR_0c
        have hZ := blk2_set (a := .bool false) (b := .int .i64 (0)) hR_0c
        obtain ⟨y0, y1, _⟩ := blk2 hZ
        go_wp2
        exact bodyPost_ret (v := .agg #[.bool false, .int .i64 (0)]) (by simp [results, Tryz.results64, go_sem, y0, y1]) rfl ⟨rfl, store2_bel hB_0c (by omega) _ _⟩
      · by_cases h20 : t ≤ 19
        · rw [(ps_wt (by omega)).1, (ps_wt (by omega)).2]
          rw [show min (t + 1) 20 = t + 1 by omega]
          clear HS
          go_enter Tryz.func64, Tryz.ntmps64
          go_wp2_with fail
          refine (sBl_is _ HT.out).mono ?_; rintro E w1 ⟨rfl, hw1⟩
          obtain ⟨hP1, hQ1, hR1, hB1⟩ := ownb3 hw1
          obtain ⟨p10, p11, _, _, zp1⟩ := blk2 hP1
          obtain ⟨q10, q11, _, _, zq1⟩ := blk2 hQ1
          obtain ⟨r10, r11, fr10, fr11, zr1⟩ := blk2 hR1
          go_wp2_with fail
          refine (sBd_is _ HB.out).mono ?_; rintro E w2 ⟨rfl, hw2⟩
          have hP2 := blk_next hP1 hw2
          have hQ2 := blk_next hQ1 hw2
          have hR2 := blk_next hR1 hw2
          have hB2 := bel_next hB1 hw2
          obtain ⟨p20, p21, _, _, zp2⟩ := blk2 hP2
          obtain ⟨q20, q21, _, _, zq2⟩ := blk2 hQ2
          obtain ⟨r20, r21, fr20, fr21, zr2⟩ := blk2 hR2
          go_wp2_with fail
          refine (sIn7_is _ HP.out).mono ?_; rintro E w' ⟨rfl, rfl⟩
          have d1 : decide (p ≤ t) = false := decide_eq_false (by omega)
          go_wp2_with fail
          refine wp_region_held_drew (S := (fun w' => w'.heap[w.heap.size]? = some (.cells #[.bool true, .int .i64 t] 31) ∧ w'.heap[w.heap.size + 1]? = some (.cells #[.int .i64 lo, .int .i64 hi] 29) ∧ w'.heap[w.heap.size + 1 + 1]? = some (.cells #[.bool false, .int .i64 0] 31) ∧ Below w.heap.size w w')) (by kernel_rfl) ⟨hP2, hQ2, hR2, hB2.drew⟩ (fun hHeld => ?_)
          obtain ⟨hP_0, hQ_0, hR_0, hB_0⟩ := id hHeld
          refine wpAnyH_take (i := 0) (oi := _) (v := ?_) rfl (by kernel_rfl) (by kernel_rfl) (by kernel_rfl) (fun _ _ _ h => h) (Or.inl ⟨by rfl, ?_⟩) (by assumption) ?_
          (rotate_left); (focus (intro wv hSw; (obtain ⟨qP, qQ, qR, qB⟩ := hSw);  go_simp; (try with_reducible rfl)))
          try simp only [Act.put, List.getElem_toArray, List.getElem_cons_succ, List.getElem_cons_zero, List.setIfInBounds_toArray, List.set_cons_zero, List.set_cons_succ]
          refine wpAnyH_take (i := 1) (oi := _) (v := ?_) rfl (by kernel_rfl) (by kernel_rfl) (by kernel_rfl) (fun _ _ _ h => h) (Or.inl ⟨by rfl, ?_⟩) (by assumption) ?_
          (rotate_left); (focus (intro wv hSw; (obtain ⟨qP, qQ, qR, qB⟩ := hSw); obtain ⟨u0, u1, _, _, _⟩ := blk2 qP; go_simp; (try with_reducible rfl)))
          try simp only [Act.put, List.getElem_toArray, List.getElem_cons_succ, List.getElem_cons_zero, List.setIfInBounds_toArray, List.set_cons_zero, List.set_cons_succ]
          refine wpAnyH_take (i := 2) (oi := _) (v := ?_) rfl (by kernel_rfl) (by kernel_rfl) (by kernel_rfl) (fun _ _ _ h => h) (Or.inl ⟨by rfl, ?_⟩) (by assumption) ?_
          (rotate_left); (focus (intro wv hSw; (obtain ⟨qP, qQ, qR, qB⟩ := hSw); obtain ⟨u0, u1, _, _, _⟩ := blk2 qQ; go_simp; (try with_reducible rfl)))
          try simp only [Act.put, List.getElem_toArray, List.getElem_cons_succ, List.getElem_cons_zero, List.setIfInBounds_toArray, List.set_cons_zero, List.set_cons_succ]
          refine wpAnyH_take (i := 3) (oi := _) (v := ?_) rfl (by kernel_rfl) (by kernel_rfl) (by kernel_rfl) (fun _ _ _ h => h) (Or.inl ⟨by rfl, ?_⟩) (by assumption) ?_
          (rotate_left); (focus (intro wv hSw; (obtain ⟨qP, qQ, qR, qB⟩ := hSw);  go_simp; (try with_reducible rfl)))
          try simp only [Act.put, List.getElem_toArray, List.getElem_cons_succ, List.getElem_cons_zero, List.setIfInBounds_toArray, List.set_cons_zero, List.set_cons_succ]
          refine wpAnyH_take (i := 5) (oi := _) (v := ?_) rfl (by kernel_rfl) (by kernel_rfl) (by kernel_rfl) (fun _ _ _ h => h) (Or.inl ⟨by rfl, ?_⟩) (by assumption) ?_
          (rotate_left); (focus (intro wv hSw; (obtain ⟨qP, qQ, qR, qB⟩ := hSw);  go_simp; (try with_reducible rfl)))
          try simp only [Act.put, List.getElem_toArray, List.getElem_cons_succ, List.getElem_cons_zero, List.setIfInBounds_toArray, List.set_cons_zero, List.set_cons_succ]
          refine wpAnyH_take (i := 6) (oi := _) (v := ?_) rfl (by kernel_rfl) (by kernel_rfl) (by kernel_rfl) (fun _ _ _ h => h) (Or.inl ⟨by rfl, ?_⟩) (by assumption) ?_
          (rotate_left); (focus (intro wv hSw; (obtain ⟨qP, qQ, qR, qB⟩ := hSw); obtain ⟨u0, u1, _, _, _⟩ := blk2 qP; go_simp; (try with_reducible rfl)))
          try simp only [Act.put, List.getElem_toArray, List.getElem_cons_succ, List.getElem_cons_zero, List.setIfInBounds_toArray, List.set_cons_zero, List.set_cons_succ]
          refine wpAnyH_ready (rs := [4]) (by kernel_rfl) (by simp) ?_
          refine AllReadyH.cons (o := _) rfl (fun K hK => ?_) AllReadyH.nil
          go_simp
          (go_at_call 116; refine (sBq_is _ HX.out).mono ?_; rintro e x0c ⟨rfl, hw_0c⟩)
          refine hK.out _ _ ⟨blk_next hP_0 hw_0c, blk_next hQ_0 hw_0c, blk_next hR_0 hw_0c, bel_next hB_0 hw_0c⟩ (fun hHeld => ?_)
          clear hK K
          try simp only [Act.put, List.getElem_toArray, List.getElem_cons_succ, List.getElem_cons_zero, List.setIfInBounds_toArray, List.set_cons_zero, List.set_cons_succ]
          obtain ⟨hP_0c, hQ_0c, hR_0c, hB_0c⟩ := id hHeld
          refine wpAnyH_take (i := 7) (oi := _) (v := ?_) rfl (by kernel_rfl) (by kernel_rfl) (by kernel_rfl) (fun _ _ _ h => h) (Or.inl ⟨by rfl, ?_⟩) (by assumption) ?_
          (rotate_left); (focus (intro wv hSw; (obtain ⟨qP, qQ, qR, qB⟩ := hSw);  go_simp; (try with_reducible rfl)))
          try simp only [Act.put, List.getElem_toArray, List.getElem_cons_succ, List.getElem_cons_zero, List.setIfInBounds_toArray, List.set_cons_zero, List.set_cons_succ]
          refine wpAnyH_take (i := 8) (oi := _) (v := ?_) rfl (by kernel_rfl) (by kernel_rfl) (by kernel_rfl) (fun _ _ _ h => h) (Or.inl ⟨by rfl, ?_⟩) (by assumption) ?_
          (rotate_left); (focus (intro wv hSw; (obtain ⟨qP, qQ, qR, qB⟩ := hSw);  go_simp; (try with_reducible rfl)))
          try simp only [Act.put, List.getElem_toArray, List.getElem_cons_succ, List.getElem_cons_zero, List.setIfInBounds_toArray, List.set_cons_zero, List.set_cons_succ]
          refine wpAnyH_take (i := 9) (oi := _) (v := ?_) rfl (by kernel_rfl) (by kernel_rfl) (by kernel_rfl) (fun _ _ _ h => h) (Or.inl ⟨by rfl, ?_⟩) (by assumption) ?_
          (rotate_left); (focus (intro wv hSw; (obtain ⟨qP, qQ, qR, qB⟩ := hSw);  go_simp; (try with_reducible rfl)))
          try simp only [Act.put, List.getElem_toArray, List.getElem_cons_succ, List.getElem_cons_zero, List.setIfInBounds_toArray, List.set_cons_zero, List.set_cons_succ]
          refine wpAnyH_take (i := 10) (oi := _) (v := ?_) rfl (by kernel_rfl) (by kernel_rfl) (by kernel_rfl) (fun _ _ _ h => h) (Or.inl ⟨by rfl, ?_⟩) (by assumption) ?_
          (rotate_left); (focus (intro wv hSw; (obtain ⟨qP, qQ, qR, qB⟩ := hSw); obtain ⟨u0, u1, _, _, _⟩ := blk2 qP; go_simp; (try with_reducible rfl)))
          try simp only [Act.put, List.getElem_toArray, List.getElem_cons_succ, List.getElem_cons_zero, List.setIfInBounds_toArray, List.set_cons_zero, List.set_cons_succ]
          refine wpAnyH_take (i := 11) (oi := _) (v := ?_) rfl (by kernel_rfl) (by kernel_rfl) (by kernel_rfl) (fun _ _ _ h => h) (Or.inl ⟨by rfl, ?_⟩) (by assumption) ?_
          (rotate_left); (focus (intro wv hSw; (obtain ⟨qP, qQ, qR, qB⟩ := hSw);  go_simp; (try with_reducible rfl)))
          try simp only [Act.put, List.getElem_toArray, List.getElem_cons_succ, List.getElem_cons_zero, List.setIfInBounds_toArray, List.set_cons_zero, List.set_cons_succ]
          refine wpAnyH_take (i := 12) (oi := _) (v := ?_) rfl (by kernel_rfl) (by kernel_rfl) (by kernel_rfl) (fun _ _ _ h => h) (Or.inl ⟨by rfl, ?_⟩) (by assumption) ?_
          (rotate_left); (focus (intro wv hSw; (obtain ⟨qP, qQ, qR, qB⟩ := hSw);  go_simp; (try with_reducible rfl)))
          try simp only [Act.put, List.getElem_toArray, List.getElem_cons_succ, List.getElem_cons_zero, List.setIfInBounds_toArray, List.set_cons_zero, List.set_cons_succ]
          refine wpAnyH_take (i := 13) (oi := _) (v := ?_) rfl (by kernel_rfl) (by kernel_rfl) (by kernel_rfl) (fun _ _ _ h => h) (Or.inl ⟨by rfl, ?_⟩) (by assumption) ?_
          (rotate_left); (focus (intro wv hSw; (obtain ⟨qP, qQ, qR, qB⟩ := hSw);  go_simp; (try with_reducible rfl)))
          try simp only [Act.put, List.getElem_toArray, List.getElem_cons_succ, List.getElem_cons_zero, List.setIfInBounds_toArray, List.set_cons_zero, List.set_cons_succ]
          refine wpAnyH_done (by kernel_rfl) ?_ _
          obtain ⟨p30, p31, _, _, zp3⟩ := blk2 hP_0c
          obtain ⟨r30, r31, fr30, fr31, zr3⟩ := blk2 hR_0c
          have hZ := blk2_set (a := .bool true) (b := .int .i64 (t + 1)) hR_0c
          obtain ⟨y0, y1, _⟩ := blk2 hZ
          go_wp2
          exact bodyPost_ret (v := .agg #[.bool true, .int .i64 (t + 1)]) (by simp [results, Tryz.results64, go_sem, y0, y1]) rfl ⟨rfl, store2_bel hB_0c (by omega) _ _⟩
        · exact absurd hpt (by omega)
    · by_cases h20 : t ≤ 19
      · rw [(ps_st HS.out).1, (ps_st HS.out).2]
        rw [show min (t + 1) 20 = t + 1 by omega]
        clear HS
        go_enter Tryz.func64, Tryz.ntmps64
        go_wp2_with fail
        refine (sBl_is _ HT.out).mono ?_; rintro E w1 ⟨rfl, hw1⟩
        obtain ⟨hP1, hQ1, hR1, hB1⟩ := ownb3 hw1
        obtain ⟨p10, p11, _, _, zp1⟩ := blk2 hP1
        obtain ⟨q10, q11, _, _, zq1⟩ := blk2 hQ1
        obtain ⟨r10, r11, fr10, fr11, zr1⟩ := blk2 hR1
        go_wp2_with fail
        refine (sBd_is _ HB.out).mono ?_; rintro E w2 ⟨rfl, hw2⟩
        have hP2 := blk_next hP1 hw2
        have hQ2 := blk_next hQ1 hw2
        have hR2 := blk_next hR1 hw2
        have hB2 := bel_next hB1 hw2
        obtain ⟨p20, p21, _, _, zp2⟩ := blk2 hP2
        obtain ⟨q20, q21, _, _, zq2⟩ := blk2 hQ2
        obtain ⟨r20, r21, fr20, fr21, zr2⟩ := blk2 hR2
        go_wp2_with fail
        refine (sIn7_is _ HP.out).mono ?_; rintro E w' ⟨rfl, rfl⟩
        go_wp2_with fail
        refine wp_region_held_drew (S := (fun w' => w'.heap[w.heap.size]? = some (.cells #[.bool true, .int .i64 t] 31) ∧ w'.heap[w.heap.size + 1]? = some (.cells #[.int .i64 lo, .int .i64 hi] 29) ∧ w'.heap[w.heap.size + 1 + 1]? = some (.cells #[.bool false, .int .i64 0] 31) ∧ Below w.heap.size w w')) (by kernel_rfl) ⟨hP2, hQ2, hR2, hB2.drew⟩ (fun hHeld => ?_)
        obtain ⟨hP_0, hQ_0, hR_0, hB_0⟩ := id hHeld
        refine wpAnyH_take (i := 0) (oi := _) (v := ?_) rfl (by kernel_rfl) (by kernel_rfl) (by kernel_rfl) (fun _ _ _ h => h) (Or.inl ⟨by rfl, ?_⟩) (by assumption) ?_
        (rotate_left); (focus (intro wv hSw; (obtain ⟨qP, qQ, qR, qB⟩ := hSw);  go_simp; (try with_reducible rfl)))
        try simp only [Act.put, List.getElem_toArray, List.getElem_cons_succ, List.getElem_cons_zero, List.setIfInBounds_toArray, List.set_cons_zero, List.set_cons_succ]
        refine wpAnyH_take (i := 1) (oi := _) (v := ?_) rfl (by kernel_rfl) (by kernel_rfl) (by kernel_rfl) (fun _ _ _ h => h) (Or.inl ⟨by rfl, ?_⟩) (by assumption) ?_
        (rotate_left); (focus (intro wv hSw; (obtain ⟨qP, qQ, qR, qB⟩ := hSw); obtain ⟨u0, u1, _, _, _⟩ := blk2 qP; go_simp; (try with_reducible rfl)))
        try simp only [Act.put, List.getElem_toArray, List.getElem_cons_succ, List.getElem_cons_zero, List.setIfInBounds_toArray, List.set_cons_zero, List.set_cons_succ]
        refine wpAnyH_take (i := 2) (oi := _) (v := ?_) rfl (by kernel_rfl) (by kernel_rfl) (by kernel_rfl) (fun _ _ _ h => h) (Or.inl ⟨by rfl, ?_⟩) (by assumption) ?_
        (rotate_left); (focus (intro wv hSw; (obtain ⟨qP, qQ, qR, qB⟩ := hSw); obtain ⟨u0, u1, _, _, _⟩ := blk2 qQ; go_simp; (try with_reducible rfl)))
        try simp only [Act.put, List.getElem_toArray, List.getElem_cons_succ, List.getElem_cons_zero, List.setIfInBounds_toArray, List.set_cons_zero, List.set_cons_succ]
        refine wpAnyH_take (i := 3) (oi := _) (v := ?_) rfl (by kernel_rfl) (by kernel_rfl) (by kernel_rfl) (fun _ _ _ h => h) (Or.inl ⟨by rfl, ?_⟩) (by assumption) ?_
        (rotate_left); (focus (intro wv hSw; (obtain ⟨qP, qQ, qR, qB⟩ := hSw);  go_simp; (try with_reducible rfl)))
        try simp only [Act.put, List.getElem_toArray, List.getElem_cons_succ, List.getElem_cons_zero, List.setIfInBounds_toArray, List.set_cons_zero, List.set_cons_succ]
        refine wpAnyH_take (i := 5) (oi := _) (v := ?_) rfl (by kernel_rfl) (by kernel_rfl) (by kernel_rfl) (fun _ _ _ h => h) (Or.inl ⟨by rfl, ?_⟩) (by assumption) ?_
        (rotate_left); (focus (intro wv hSw; (obtain ⟨qP, qQ, qR, qB⟩ := hSw);  go_simp; (try with_reducible rfl)))
        try simp only [Act.put, List.getElem_toArray, List.getElem_cons_succ, List.getElem_cons_zero, List.setIfInBounds_toArray, List.set_cons_zero, List.set_cons_succ]
        refine wpAnyH_take (i := 6) (oi := _) (v := ?_) rfl (by kernel_rfl) (by kernel_rfl) (by kernel_rfl) (fun _ _ _ h => h) (Or.inl ⟨by rfl, ?_⟩) (by assumption) ?_
        (rotate_left); (focus (intro wv hSw; (obtain ⟨qP, qQ, qR, qB⟩ := hSw); obtain ⟨u0, u1, _, _, _⟩ := blk2 qP; go_simp; (try with_reducible rfl)))
        try simp only [Act.put, List.getElem_toArray, List.getElem_cons_succ, List.getElem_cons_zero, List.setIfInBounds_toArray, List.set_cons_zero, List.set_cons_succ]
        refine wpAnyH_ready (rs := [4]) (by kernel_rfl) (by simp) ?_
        refine AllReadyH.cons (o := _) rfl (fun K hK => ?_) AllReadyH.nil
        go_simp
        (go_at_call 116; refine (sBq_is _ HX.out).mono ?_; rintro e x0c ⟨rfl, hw_0c⟩)
        refine hK.out _ _ ⟨blk_next hP_0 hw_0c, blk_next hQ_0 hw_0c, blk_next hR_0 hw_0c, bel_next hB_0 hw_0c⟩ (fun hHeld => ?_)
        clear hK K
        try simp only [Act.put, List.getElem_toArray, List.getElem_cons_succ, List.getElem_cons_zero, List.setIfInBounds_toArray, List.set_cons_zero, List.set_cons_succ]
        obtain ⟨hP_0c, hQ_0c, hR_0c, hB_0c⟩ := id hHeld
        refine wpAnyH_take (i := 7) (oi := _) (v := ?_) rfl (by kernel_rfl) (by kernel_rfl) (by kernel_rfl) (fun _ _ _ h => h) (Or.inl ⟨by rfl, ?_⟩) (by assumption) ?_
        (rotate_left); (focus (intro wv hSw; (obtain ⟨qP, qQ, qR, qB⟩ := hSw);  go_simp; (try with_reducible rfl)))
        try simp only [Act.put, List.getElem_toArray, List.getElem_cons_succ, List.getElem_cons_zero, List.setIfInBounds_toArray, List.set_cons_zero, List.set_cons_succ]
        refine wpAnyH_take (i := 8) (oi := _) (v := ?_) rfl (by kernel_rfl) (by kernel_rfl) (by kernel_rfl) (fun _ _ _ h => h) (Or.inl ⟨by rfl, ?_⟩) (by assumption) ?_
        (rotate_left); (focus (intro wv hSw; (obtain ⟨qP, qQ, qR, qB⟩ := hSw);  go_simp; (try with_reducible rfl)))
        try simp only [Act.put, List.getElem_toArray, List.getElem_cons_succ, List.getElem_cons_zero, List.setIfInBounds_toArray, List.set_cons_zero, List.set_cons_succ]
        refine wpAnyH_take (i := 9) (oi := _) (v := undef) rfl (by kernel_rfl) (by kernel_rfl) (by kernel_rfl) (fun _ _ _ h => h) (Or.inr ⟨by kernel_rfl, rfl⟩) (by assumption) ?_
        try simp only [Act.put, List.getElem_toArray, List.getElem_cons_succ, List.getElem_cons_zero, List.setIfInBounds_toArray, List.set_cons_zero, List.set_cons_succ]
        refine wpAnyH_take (i := 10) (oi := _) (v := undef) rfl (by kernel_rfl) (by kernel_rfl) (by kernel_rfl) (fun _ _ _ h => h) (Or.inr ⟨by kernel_rfl, rfl⟩) (by assumption) ?_
        try simp only [Act.put, List.getElem_toArray, List.getElem_cons_succ, List.getElem_cons_zero, List.setIfInBounds_toArray, List.set_cons_zero, List.set_cons_succ]
        refine wpAnyH_take (i := 11) (oi := _) (v := undef) rfl (by kernel_rfl) (by kernel_rfl) (by kernel_rfl) (fun _ _ _ h => h) (Or.inr ⟨by kernel_rfl, rfl⟩) (by assumption) ?_
        try simp only [Act.put, List.getElem_toArray, List.getElem_cons_succ, List.getElem_cons_zero, List.setIfInBounds_toArray, List.set_cons_zero, List.set_cons_succ]
        refine wpAnyH_take (i := 12) (oi := _) (v := undef) rfl (by kernel_rfl) (by kernel_rfl) (by kernel_rfl) (fun _ _ _ h => h) (Or.inr ⟨by kernel_rfl, rfl⟩) (by assumption) ?_
        try simp only [Act.put, List.getElem_toArray, List.getElem_cons_succ, List.getElem_cons_zero, List.setIfInBounds_toArray, List.set_cons_zero, List.set_cons_succ]
        refine wpAnyH_take (i := 13) (oi := _) (v := ?_) rfl (by kernel_rfl) (by kernel_rfl) (by kernel_rfl) (fun _ _ _ h => h) (Or.inl ⟨by rfl, ?_⟩) (by assumption) ?_
        (rotate_left); (focus (intro wv hSw; (obtain ⟨qP, qQ, qR, qB⟩ := hSw);  go_simp; (try with_reducible rfl)))
        try simp only [Act.put, List.getElem_toArray, List.getElem_cons_succ, List.getElem_cons_zero, List.setIfInBounds_toArray, List.set_cons_zero, List.set_cons_succ]
        refine wpAnyH_done (by kernel_rfl) ?_ _
        obtain ⟨p30, p31, _, _, zp3⟩ := blk2 hP_0c
        obtain ⟨r30, r31, fr30, fr31, zr3⟩ := blk2 hR_0c
        have hZ := blk2_set (a := .bool true) (b := .int .i64 (t + 1)) hR_0c
        obtain ⟨y0, y1, _⟩ := blk2 hZ
        go_wp2
        exact bodyPost_ret (v := .agg #[.bool true, .int .i64 (t + 1)]) (by simp [results, Tryz.results64, go_sem, y0, y1]) rfl ⟨rfl, store2_bel hB_0c (by omega) _ _⟩
      · rw [(ps_st HS.out).1, (ps_st HS.out).2]
        rw [show min (t + 1) 20 = 20 by omega]
        clear HS
        go_enter Tryz.func64, Tryz.ntmps64
        go_wp2_with fail
        refine (sBl_is _ HT.out).mono ?_; rintro E w1 ⟨rfl, hw1⟩
        obtain ⟨hP1, hQ1, hR1, hB1⟩ := ownb3 hw1
        obtain ⟨p10, p11, _, _, zp1⟩ := blk2 hP1
        obtain ⟨q10, q11, _, _, zq1⟩ := blk2 hQ1
        obtain ⟨r10, r11, fr10, fr11, zr1⟩ := blk2 hR1
        go_wp2_with fail
        refine (sBd_is _ HB.out).mono ?_; rintro E w2 ⟨rfl, hw2⟩
        have hP2 := blk_next hP1 hw2
        have hQ2 := blk_next hQ1 hw2
        have hR2 := blk_next hR1 hw2
        have hB2 := bel_next hB1 hw2
        obtain ⟨p20, p21, _, _, zp2⟩ := blk2 hP2
        obtain ⟨q20, q21, _, _, zq2⟩ := blk2 hQ2
        obtain ⟨r20, r21, fr20, fr21, zr2⟩ := blk2 hR2
        go_wp2_with fail
        refine (sIn7_is _ HP.out).mono ?_; rintro E w' ⟨rfl, rfl⟩
        go_wp2_with fail
        refine wp_region_held_drew (S := (fun w' => w'.heap[w.heap.size]? = some (.cells #[.bool true, .int .i64 t] 31) ∧ w'.heap[w.heap.size + 1]? = some (.cells #[.int .i64 lo, .int .i64 hi] 29) ∧ w'.heap[w.heap.size + 1 + 1]? = some (.cells #[.bool false, .int .i64 0] 31) ∧ Below w.heap.size w w')) (by kernel_rfl) ⟨hP2, hQ2, hR2, hB2.drew⟩ (fun hHeld => ?_)
        obtain ⟨hP_0, hQ_0, hR_0, hB_0⟩ := id hHeld
        refine wpAnyH_take (i := 0) (oi := _) (v := ?_) rfl (by kernel_rfl) (by kernel_rfl) (by kernel_rfl) (fun _ _ _ h => h) (Or.inl ⟨by rfl, ?_⟩) (by assumption) ?_
        (rotate_left); (focus (intro wv hSw; (obtain ⟨qP, qQ, qR, qB⟩ := hSw);  go_simp; (try with_reducible rfl)))
        try simp only [Act.put, List.getElem_toArray, List.getElem_cons_succ, List.getElem_cons_zero, List.setIfInBounds_toArray, List.set_cons_zero, List.set_cons_succ]
        refine wpAnyH_take (i := 1) (oi := _) (v := ?_) rfl (by kernel_rfl) (by kernel_rfl) (by kernel_rfl) (fun _ _ _ h => h) (Or.inl ⟨by rfl, ?_⟩) (by assumption) ?_
        (rotate_left); (focus (intro wv hSw; (obtain ⟨qP, qQ, qR, qB⟩ := hSw); obtain ⟨u0, u1, _, _, _⟩ := blk2 qP; go_simp; (try with_reducible rfl)))
        try simp only [Act.put, List.getElem_toArray, List.getElem_cons_succ, List.getElem_cons_zero, List.setIfInBounds_toArray, List.set_cons_zero, List.set_cons_succ]
        refine wpAnyH_take (i := 2) (oi := _) (v := ?_) rfl (by kernel_rfl) (by kernel_rfl) (by kernel_rfl) (fun _ _ _ h => h) (Or.inl ⟨by rfl, ?_⟩) (by assumption) ?_
        (rotate_left); (focus (intro wv hSw; (obtain ⟨qP, qQ, qR, qB⟩ := hSw); obtain ⟨u0, u1, _, _, _⟩ := blk2 qQ; go_simp; (try with_reducible rfl)))
        try simp only [Act.put, List.getElem_toArray, List.getElem_cons_succ, List.getElem_cons_zero, List.setIfInBounds_toArray, List.set_cons_zero, List.set_cons_succ]
        refine wpAnyH_take (i := 3) (oi := _) (v := ?_) rfl (by kernel_rfl) (by kernel_rfl) (by kernel_rfl) (fun _ _ _ h => h) (Or.inl ⟨by rfl, ?_⟩) (by assumption) ?_
        (rotate_left); (focus (intro wv hSw; (obtain ⟨qP, qQ, qR, qB⟩ := hSw);  go_simp; (try with_reducible rfl)))
        try simp only [Act.put, List.getElem_toArray, List.getElem_cons_succ, List.getElem_cons_zero, List.setIfInBounds_toArray, List.set_cons_zero, List.set_cons_succ]
        refine wpAnyH_take (i := 5) (oi := _) (v := ?_) rfl (by kernel_rfl) (by kernel_rfl) (by kernel_rfl) (fun _ _ _ h => h) (Or.inl ⟨by rfl, ?_⟩) (by assumption) ?_
        (rotate_left); (focus (intro wv hSw; (obtain ⟨qP, qQ, qR, qB⟩ := hSw);  go_simp; (try with_reducible rfl)))
        try simp only [Act.put, List.getElem_toArray, List.getElem_cons_succ, List.getElem_cons_zero, List.setIfInBounds_toArray, List.set_cons_zero, List.set_cons_succ]
        refine wpAnyH_take (i := 6) (oi := _) (v := ?_) rfl (by kernel_rfl) (by kernel_rfl) (by kernel_rfl) (fun _ _ _ h => h) (Or.inl ⟨by rfl, ?_⟩) (by assumption) ?_
        (rotate_left); (focus (intro wv hSw; (obtain ⟨qP, qQ, qR, qB⟩ := hSw); obtain ⟨u0, u1, _, _, _⟩ := blk2 qP; go_simp; (try with_reducible rfl)))
        try simp only [Act.put, List.getElem_toArray, List.getElem_cons_succ, List.getElem_cons_zero, List.setIfInBounds_toArray, List.set_cons_zero, List.set_cons_succ]
        refine wpAnyH_ready (rs := [4]) (by kernel_rfl) (by simp) ?_
        refine AllReadyH.cons (o := _) rfl (fun K hK => ?_) AllReadyH.nil
        go_simp
        (go_at_call 116; refine (sBq_is _ HX.out).mono ?_; rintro e x0c ⟨rfl, hw_0c⟩)
        refine hK.out _ _ ⟨blk_next hP_0 hw_0c, blk_next hQ_0 hw_0c, blk_next hR_0 hw_0c, bel_next hB_0 hw_0c⟩ (fun hHeld => ?_)
        clear hK K
        try simp only [Act.put, List.getElem_toArray, List.getElem_cons_succ, List.getElem_cons_zero, List.setIfInBounds_toArray, List.set_cons_zero, List.set_cons_succ]
        obtain ⟨hP_0c, hQ_0c, hR_0c, hB_0c⟩ := id hHeld
        refine wpAnyH_take (i := 7) (oi := _) (v := ?_) rfl (by kernel_rfl) (by kernel_rfl) (by kernel_rfl) (fun _ _ _ h => h) (Or.inl ⟨by rfl, ?_⟩) (by assumption) ?_
        (rotate_left); (focus (intro wv hSw; (obtain ⟨qP, qQ, qR, qB⟩ := hSw);  go_simp; (try with_reducible rfl)))
        try simp only [Act.put, List.getElem_toArray, List.getElem_cons_succ, List.getElem_cons_zero, List.setIfInBounds_toArray, List.set_cons_zero, List.set_cons_succ]
        refine wpAnyH_take (i := 8) (oi := _) (v := ?_) rfl (by kernel_rfl) (by kernel_rfl) (by kernel_rfl) (fun _ _ _ h => h) (Or.inl ⟨by rfl, ?_⟩) (by assumption) ?_
        (rotate_left); (focus (intro wv hSw; (obtain ⟨qP, qQ, qR, qB⟩ := hSw);  go_simp; (try with_reducible rfl)))
        try simp only [Act.put, List.getElem_toArray, List.getElem_cons_succ, List.getElem_cons_zero, List.setIfInBounds_toArray, List.set_cons_zero, List.set_cons_succ]
        refine wpAnyH_take (i := 9) (oi := _) (v := undef) rfl (by kernel_rfl) (by kernel_rfl) (by kernel_rfl) (fun _ _ _ h => h) (Or.inr ⟨by kernel_rfl, rfl⟩) (by assumption) ?_
        try simp only [Act.put, List.getElem_toArray, List.getElem_cons_succ, List.getElem_cons_zero, List.setIfInBounds_toArray, List.set_cons_zero, List.set_cons_succ]
        refine wpAnyH_take (i := 10) (oi := _) (v := undef) rfl (by kernel_rfl) (by kernel_rfl) (by kernel_rfl) (fun _ _ _ h => h) (Or.inr ⟨by kernel_rfl, rfl⟩) (by assumption) ?_
        try simp only [Act.put, List.getElem_toArray, List.getElem_cons_succ, List.getElem_cons_zero, List.setIfInBounds_toArray, List.set_cons_zero, List.set_cons_succ]
        refine wpAnyH_take (i := 11) (oi := _) (v := undef) rfl (by kernel_rfl) (by kernel_rfl) (by kernel_rfl) (fun _ _ _ h => h) (Or.inr ⟨by kernel_rfl, rfl⟩) (by assumption) ?_
        try simp only [Act.put, List.getElem_toArray, List.getElem_cons_succ, List.getElem_cons_zero, List.setIfInBounds_toArray, List.set_cons_zero, List.set_cons_succ]
        refine wpAnyH_take (i := 12) (oi := _) (v := undef) rfl (by kernel_rfl) (by kernel_rfl) (by kernel_rfl) (fun _ _ _ h => h) (Or.inr ⟨by kernel_rfl, rfl⟩) (by assumption) ?_
        try simp only [Act.put, List.getElem_toArray, List.getElem_cons_succ, List.getElem_cons_zero, List.setIfInBounds_toArray, List.set_cons_zero, List.set_cons_succ]
        refine wpAnyH_take (i := 13) (oi := _) (v := ?_) rfl (by kernel_rfl) (by kernel_rfl) (by kernel_rfl) (fun _ _ _ h => h) (Or.inl ⟨by rfl, ?_⟩) (by assumption) ?_
        (rotate_left); (focus (intro wv hSw; (obtain ⟨qP, qQ, qR, qB⟩ := hSw);  go_simp; (try with_reducible rfl)))
        try simp only [Act.put, List.getElem_toArray, List.getElem_cons_succ, List.getElem_cons_zero, List.setIfInBounds_toArray, List.set_cons_zero, List.set_cons_succ]
        refine wpAnyH_done (by kernel_rfl) ?_ _
        obtain ⟨p30, p31, _, _, zp3⟩ := blk2 hP_0c
        obtain ⟨r30, r31, fr30, fr31, zr3⟩ := blk2 hR_0c
        have hZ := blk2_set (a := .bool true) (b := .int .i64 (20)) hR_0c
        obtain ⟨y0, y1, _⟩ := blk2 hZ
        go_wp2
        exact bodyPost_ret (v := .agg #[.bool true, .int .i64 (20)]) (by simp [results, Tryz.results64, go_sem, y0, y1]) rfl ⟨rfl, store2_bel hB_0c (by omega) _ _⟩
end Go.Proofs.YtbklgpghonigjaaGreat
