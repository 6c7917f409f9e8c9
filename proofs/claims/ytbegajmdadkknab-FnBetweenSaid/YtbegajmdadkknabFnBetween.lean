/- FnBetween: whatever the input, the law returns true, and its arguments read as they did. No conditions beyond those of the statement's row. -/
import Derived.Test.YtbegajmdadkknabDr8
import Derived.Test.YtbegajmdadkknabWbt
import Derived.Test.YtbegajmdadkknabLp
namespace Go.Proofs.Ytbegajmdadkknab.fnBetween
open Go.Proofs.Ytbegajmdadkknab
open Go.ChangeShapes Go.WideShapes Go.ChangeAt Go.RowKit Go.Joins
set_option linter.unusedVariables false
set_option linter.unusedSimpArgs false
set_option linter.unnecessarySimpa false

theorem own : ownKnob Try.prog.godebug = none := by kernel_rfl
theorem laidOut : laidOutB Try.prog = true := by kernel_rfl

set_option maxRecDepth 100000 in
set_option maxHeartbeats 4000000 in
theorem walk (w : World) (a0 : Option Addr) (len0 cap0 : Nat) (w0 : CodeOk w a0 len0 cap0) :
    Calls Try.prog 6 #[.slice a0 len0 cap0] w fun e w' => e = .returned (.bool true) ∧ Below w.heap.size w w' := by
  by_cases hl : 1048576 < len0
  · have w0' := w0.2.1
    unfold maxLen at w0'
    clear w0
    go_enter Try.func6, Try.ntmps6
    go_wp2
    go_ret
    exact ⟨rfl, Below.refl _ _⟩
  · have w0' := w0.2.1
    unfold maxLen at w0'
    have hle := w0.1
    have HW := Lib.hid w0
    clear w0
    go_enter Try.func6, Try.ntmps6
    go_wp2_with fail
    refine (drBetween_any _ _ _ _ HW.out).mono ?_; rintro e w1 ⟨a, b, c, d, f, g, rfl, a0, a1, b0, b1, c0, c1, d0, d1, f0, f1, g0, g1, hB0⟩
    cases hv : wsB [(a, b), (c, d), (f, g)]
    · have hbt : btR a b c d f g = false := by unfold btR; rw [hv]; rfl
      have HV := Lib.hid hv
      have HB := Lib.hid hbt
      clear hv hbt
      go_wp2_with fail
      refine (iBt_is _ HB.out).mono ?_; rintro e w2 ⟨rfl, hw2⟩
      obtain ⟨hP2, hQ2, hR2, hB2⟩ := ownb3 hw2
      obtain ⟨cP2_0, cP2_1, fP2_0, fP2_1, zP2⟩ := blk2 hP2
      obtain ⟨cQ2_0, cQ2_1, fQ2_0, fQ2_1, zQ2⟩ := blk2 hQ2
      obtain ⟨cR2_0, cR2_1, fR2_0, fR2_1, zR2⟩ := blk2 hR2
      go_wp2_with fail
      refine (sBt_is _ HB.out).mono ?_; rintro e w3 ⟨rfl, hw3⟩
      have hP3 := blk_next hP2 hw3
      have hQ3 := blk_next hQ2 hw3
      have hR3 := blk_next hR2 hw3
      have hB3 := bel_next hB2 hw3
      obtain ⟨cP3_0, cP3_1, fP3_0, fP3_1, zP3⟩ := blk2 hP3
      obtain ⟨cQ3_0, cQ3_1, fQ3_0, fQ3_1, zQ3⟩ := blk2 hQ3
      obtain ⟨cR3_0, cR3_1, fR3_0, fR3_1, zR3⟩ := blk2 hR3
      go_wp2_with fail
      refine (sWsV_any _ _ [(a, b), (c, d), (f, g)] _ (WRow.of_lits _ (blk_new w3 _) rfl) (by simp)).mono ?_; rintro e w4 ⟨rfl, hw4'⟩
      have hw4 := (ownb hw4').2
      have hP4 := blk_next hP3 hw4
      have hQ4 := blk_next hQ3 hw4
      have hR4 := blk_next hR3 hw4
      have hB4 := bel_next hB3 hw4
      obtain ⟨cP4_0, cP4_1, fP4_0, fP4_1, zP4⟩ := blk2 hP4
      obtain ⟨cQ4_0, cQ4_1, fQ4_0, fQ4_1, zQ4⟩ := blk2 hQ4
      obtain ⟨cR4_0, cR4_1, fR4_0, fR4_1, zR4⟩ := blk2 hR4
      rw [HV.out]
      go_wp2_with fail
      refine (alive_bel _).mono ?_; rintro e w5 ⟨rfl, hw5⟩
      have hP5 := blk_next hP4 hw5
      have hQ5 := blk_next hQ4 hw5
      have hR5 := blk_next hR4 hw5
      have hB5 := bel_next hB4 hw5
      obtain ⟨cP5_0, cP5_1, fP5_0, fP5_1, zP5⟩ := blk2 hP5
      obtain ⟨cQ5_0, cQ5_1, fQ5_0, fQ5_1, zQ5⟩ := blk2 hQ5
      obtain ⟨cR5_0, cR5_1, fR5_0, fR5_1, zR5⟩ := blk2 hR5
      go_wp2
      go_ret
      exact ⟨rfl, bel_next hB0 hB5⟩
    · obtain ⟨gw, gf, gt⟩ := ws3 hv
      have hself : btR c d c d f g = true := bt_self gf gt
      have HS := Lib.hid hself
      have HV := Lib.hid hv
      clear hself
      cases hbt : btR a b c d f g
      all_goals
        have HB := Lib.hid hbt
        cases h1 : swB a b c d
        · cases h2 : swB a b f g
          · cases h3 : swB c d f g
            · have H1 := Lib.hid h1
              have H2 := Lib.hid h2
              have H3 := Lib.hid h3
              have ht : btR f g c d f g = false := bt_to gf gt h3
              have HT := Lib.hid ht
              have ho := bt_other hv h1 h2 h3
              rw [hbt] at ho
              have HO := Lib.hid ho
              clear hv gw gf gt hbt h1 h2 h3 ht ho
              go_wp2_with fail
              refine (iBt_is _ HB.out).mono ?_; rintro e w2 ⟨rfl, hw2⟩
              obtain ⟨hP2, hQ2, hR2, hB2⟩ := ownb3 hw2
              obtain ⟨cP2_0, cP2_1, fP2_0, fP2_1, zP2⟩ := blk2 hP2
              obtain ⟨cQ2_0, cQ2_1, fQ2_0, fQ2_1, zQ2⟩ := blk2 hQ2
              obtain ⟨cR2_0, cR2_1, fR2_0, fR2_1, zR2⟩ := blk2 hR2
              go_wp2_with fail
              refine (sBt_is _ HB.out).mono ?_; rintro e w3 ⟨rfl, hw3⟩
              have hP3 := blk_next hP2 hw3
              have hQ3 := blk_next hQ2 hw3
              have hR3 := blk_next hR2 hw3
              have hB3 := bel_next hB2 hw3
              obtain ⟨cP3_0, cP3_1, fP3_0, fP3_1, zP3⟩ := blk2 hP3
              obtain ⟨cQ3_0, cQ3_1, fQ3_0, fQ3_1, zQ3⟩ := blk2 hQ3
              obtain ⟨cR3_0, cR3_1, fR3_0, fR3_1, zR3⟩ := blk2 hR3
              go_wp2_with fail
              refine (sWsV_any _ _ [(a, b), (c, d), (f, g)] _ (WRow.of_lits _ (blk_new w3 _) rfl) (by simp)).mono ?_; rintro e w4 ⟨rfl, hw4'⟩
              have hw4 := (ownb hw4').2
              have hP4 := blk_next hP3 hw4
              have hQ4 := blk_next hQ3 hw4
              have hR4 := blk_next hR3 hw4
              have hB4 := bel_next hB3 hw4
              obtain ⟨cP4_0, cP4_1, fP4_0, fP4_1, zP4⟩ := blk2 hP4
              obtain ⟨cQ4_0, cQ4_1, fQ4_0, fQ4_1, zQ4⟩ := blk2 hQ4
              obtain ⟨cR4_0, cR4_1, fR4_0, fR4_1, zR4⟩ := blk2 hR4
              rw [HV.out]
              go_wp2_with fail
              refine (iSW_is _ H1.out).mono ?_; rintro e w5 ⟨rfl, hw5⟩
              have hP5 := blk_next hP4 hw5
              have hQ5 := blk_next hQ4 hw5
              have hR5 := blk_next hR4 hw5
              have hB5 := bel_next hB4 hw5
              obtain ⟨cP5_0, cP5_1, fP5_0, fP5_1, zP5⟩ := blk2 hP5
              obtain ⟨cQ5_0, cQ5_1, fQ5_0, fQ5_1, zQ5⟩ := blk2 hQ5
              obtain ⟨cR5_0, cR5_1, fR5_0, fR5_1, zR5⟩ := blk2 hR5
              go_wp2_with fail
              refine (iSW_is _ H2.out).mono ?_; rintro e w6 ⟨rfl, hw6⟩
              have hP6 := blk_next hP5 hw6
              have hQ6 := blk_next hQ5 hw6
              have hR6 := blk_next hR5 hw6
              have hB6 := bel_next hB5 hw6
              obtain ⟨cP6_0, cP6_1, fP6_0, fP6_1, zP6⟩ := blk2 hP6
              obtain ⟨cQ6_0, cQ6_1, fQ6_0, fQ6_1, zQ6⟩ := blk2 hQ6
              obtain ⟨cR6_0, cR6_1, fR6_0, fR6_1, zR6⟩ := blk2 hR6
              go_wp2_with fail
              refine (iSW_is _ H3.out).mono ?_; rintro e w7 ⟨rfl, hw7⟩
              have hP7 := blk_next hP6 hw7
              have hQ7 := blk_next hQ6 hw7
              have hR7 := blk_next hR6 hw7
              have hB7 := bel_next hB6 hw7
              obtain ⟨cP7_0, cP7_1, fP7_0, fP7_1, zP7⟩ := blk2 hP7
              obtain ⟨cQ7_0, cQ7_1, fQ7_0, fQ7_1, zQ7⟩ := blk2 hQ7
              obtain ⟨cR7_0, cR7_1, fR7_0, fR7_1, zR7⟩ := blk2 hR7
              go_wp2_with fail
              refine (iBt_is _ HO.out).mono ?_; rintro e w8 ⟨rfl, hw8⟩
              have hP8 := blk_next hP7 hw8
              have hQ8 := blk_next hQ7 hw8
              have hR8 := blk_next hR7 hw8
              have hB8 := bel_next hB7 hw8
              obtain ⟨cP8_0, cP8_1, fP8_0, fP8_1, zP8⟩ := blk2 hP8
              obtain ⟨cQ8_0, cQ8_1, fQ8_0, fQ8_1, zQ8⟩ := blk2 hQ8
              obtain ⟨cR8_0, cR8_1, fR8_0, fR8_1, zR8⟩ := blk2 hR8
              go_wp2_with fail
              refine (iBt_is _ HS.out).mono ?_; rintro e w9 ⟨rfl, hw9⟩
              have hP9 := blk_next hP8 hw9
              have hQ9 := blk_next hQ8 hw9
              have hR9 := blk_next hR8 hw9
              have hB9 := bel_next hB8 hw9
              obtain ⟨cP9_0, cP9_1, fP9_0, fP9_1, zP9⟩ := blk2 hP9
              obtain ⟨cQ9_0, cQ9_1, fQ9_0, fQ9_1, zQ9⟩ := blk2 hQ9
              obtain ⟨cR9_0, cR9_1, fR9_0, fR9_1, zR9⟩ := blk2 hR9
              go_wp2_with fail
              refine (iSW_is _ H3.out).mono ?_; rintro e w10 ⟨rfl, hw10⟩
              have hP10 := blk_next hP9 hw10
              have hQ10 := blk_next hQ9 hw10
              have hR10 := blk_next hR9 hw10
              have hB10 := bel_next hB9 hw10
              obtain ⟨cP10_0, cP10_1, fP10_0, fP10_1, zP10⟩ := blk2 hP10
              obtain ⟨cQ10_0, cQ10_1, fQ10_0, fQ10_1, zQ10⟩ := blk2 hQ10
              obtain ⟨cR10_0, cR10_1, fR10_0, fR10_1, zR10⟩ := blk2 hR10
              go_wp2_with fail
              refine (iBt_is _ HT.out).mono ?_; rintro e w11 ⟨rfl, hw11⟩
              have hP11 := blk_next hP10 hw11
              have hQ11 := blk_next hQ10 hw11
              have hR11 := blk_next hR10 hw11
              have hB11 := bel_next hB10 hw11
              obtain ⟨cP11_0, cP11_1, fP11_0, fP11_1, zP11⟩ := blk2 hP11
              obtain ⟨cQ11_0, cQ11_1, fQ11_0, fQ11_1, zQ11⟩ := blk2 hQ11
              obtain ⟨cR11_0, cR11_1, fR11_0, fR11_1, zR11⟩ := blk2 hR11
              go_wp2
              go_ret
              exact ⟨rfl, bel_next hB0 hB11⟩
            · have H1 := Lib.hid h1
              have H2 := Lib.hid h2
              have H3 := Lib.hid h3
              clear hv gw gf gt hbt h1 h2 h3
              go_wp2_with fail
              refine (iBt_is _ HB.out).mono ?_; rintro e w2 ⟨rfl, hw2⟩
              obtain ⟨hP2, hQ2, hR2, hB2⟩ := ownb3 hw2
              obtain ⟨cP2_0, cP2_1, fP2_0, fP2_1, zP2⟩ := blk2 hP2
              obtain ⟨cQ2_0, cQ2_1, fQ2_0, fQ2_1, zQ2⟩ := blk2 hQ2
              obtain ⟨cR2_0, cR2_1, fR2_0, fR2_1, zR2⟩ := blk2 hR2
              go_wp2_with fail
              refine (sBt_is _ HB.out).mono ?_; rintro e w3 ⟨rfl, hw3⟩
              have hP3 := blk_next hP2 hw3
              have hQ3 := blk_next hQ2 hw3
              have hR3 := blk_next hR2 hw3
              have hB3 := bel_next hB2 hw3
              obtain ⟨cP3_0, cP3_1, fP3_0, fP3_1, zP3⟩ := blk2 hP3
              obtain ⟨cQ3_0, cQ3_1, fQ3_0, fQ3_1, zQ3⟩ := blk2 hQ3
              obtain ⟨cR3_0, cR3_1, fR3_0, fR3_1, zR3⟩ := blk2 hR3
              go_wp2_with fail
              refine (sWsV_any _ _ [(a, b), (c, d), (f, g)] _ (WRow.of_lits _ (blk_new w3 _) rfl) (by simp)).mono ?_; rintro e w4 ⟨rfl, hw4'⟩
              have hw4 := (ownb hw4').2
              have hP4 := blk_next hP3 hw4
              have hQ4 := blk_next hQ3 hw4
              have hR4 := blk_next hR3 hw4
              have hB4 := bel_next hB3 hw4
              obtain ⟨cP4_0, cP4_1, fP4_0, fP4_1, zP4⟩ := blk2 hP4
              obtain ⟨cQ4_0, cQ4_1, fQ4_0, fQ4_1, zQ4⟩ := blk2 hQ4
              obtain ⟨cR4_0, cR4_1, fR4_0, fR4_1, zR4⟩ := blk2 hR4
              rw [HV.out]
              go_wp2_with fail
              refine (iSW_is _ H1.out).mono ?_; rintro e w5 ⟨rfl, hw5⟩
              have hP5 := blk_next hP4 hw5
              have hQ5 := blk_next hQ4 hw5
              have hR5 := blk_next hR4 hw5
              have hB5 := bel_next hB4 hw5
              obtain ⟨cP5_0, cP5_1, fP5_0, fP5_1, zP5⟩ := blk2 hP5
              obtain ⟨cQ5_0, cQ5_1, fQ5_0, fQ5_1, zQ5⟩ := blk2 hQ5
              obtain ⟨cR5_0, cR5_1, fR5_0, fR5_1, zR5⟩ := blk2 hR5
              go_wp2_with fail
              refine (iSW_is _ H2.out).mono ?_; rintro e w6 ⟨rfl, hw6⟩
              have hP6 := blk_next hP5 hw6
              have hQ6 := blk_next hQ5 hw6
              have hR6 := blk_next hR5 hw6
              have hB6 := bel_next hB5 hw6
              obtain ⟨cP6_0, cP6_1, fP6_0, fP6_1, zP6⟩ := blk2 hP6
              obtain ⟨cQ6_0, cQ6_1, fQ6_0, fQ6_1, zQ6⟩ := blk2 hQ6
              obtain ⟨cR6_0, cR6_1, fR6_0, fR6_1, zR6⟩ := blk2 hR6
              go_wp2_with fail
              refine (iSW_is _ H3.out).mono ?_; rintro e w7 ⟨rfl, hw7⟩
              have hP7 := blk_next hP6 hw7
              have hQ7 := blk_next hQ6 hw7
              have hR7 := blk_next hR6 hw7
              have hB7 := bel_next hB6 hw7
              obtain ⟨cP7_0, cP7_1, fP7_0, fP7_1, zP7⟩ := blk2 hP7
              obtain ⟨cQ7_0, cQ7_1, fQ7_0, fQ7_1, zQ7⟩ := blk2 hQ7
              obtain ⟨cR7_0, cR7_1, fR7_0, fR7_1, zR7⟩ := blk2 hR7
              go_wp2_with fail
              refine (iBt_is _ HS.out).mono ?_; rintro e w8 ⟨rfl, hw8⟩
              have hP8 := blk_next hP7 hw8
              have hQ8 := blk_next hQ7 hw8
              have hR8 := blk_next hR7 hw8
              have hB8 := bel_next hB7 hw8
              obtain ⟨cP8_0, cP8_1, fP8_0, fP8_1, zP8⟩ := blk2 hP8
              obtain ⟨cQ8_0, cQ8_1, fQ8_0, fQ8_1, zQ8⟩ := blk2 hQ8
              obtain ⟨cR8_0, cR8_1, fR8_0, fR8_1, zR8⟩ := blk2 hR8
              go_wp2_with fail
              refine (iSW_is _ H3.out).mono ?_; rintro e w9 ⟨rfl, hw9⟩
              have hP9 := blk_next hP8 hw9
              have hQ9 := blk_next hQ8 hw9
              have hR9 := blk_next hR8 hw9
              have hB9 := bel_next hB8 hw9
              obtain ⟨cP9_0, cP9_1, fP9_0, fP9_1, zP9⟩ := blk2 hP9
              obtain ⟨cQ9_0, cQ9_1, fQ9_0, fQ9_1, zQ9⟩ := blk2 hQ9
              obtain ⟨cR9_0, cR9_1, fR9_0, fR9_1, zR9⟩ := blk2 hR9
              go_wp2
              go_ret
              exact ⟨rfl, bel_next hB0 hB9⟩
          · cases h3 : swB c d f g
            · have H1 := Lib.hid h1
              have H2 := Lib.hid h2
              have H3 := Lib.hid h3
              have ht : btR f g c d f g = false := bt_to gf gt h3
              have HT := Lib.hid ht
              clear hv gw gf gt hbt h1 h2 h3 ht
              go_wp2_with fail
              refine (iBt_is _ HB.out).mono ?_; rintro e w2 ⟨rfl, hw2⟩
              obtain ⟨hP2, hQ2, hR2, hB2⟩ := ownb3 hw2
              obtain ⟨cP2_0, cP2_1, fP2_0, fP2_1, zP2⟩ := blk2 hP2
              obtain ⟨cQ2_0, cQ2_1, fQ2_0, fQ2_1, zQ2⟩ := blk2 hQ2
              obtain ⟨cR2_0, cR2_1, fR2_0, fR2_1, zR2⟩ := blk2 hR2
              go_wp2_with fail
              refine (sBt_is _ HB.out).mono ?_; rintro e w3 ⟨rfl, hw3⟩
              have hP3 := blk_next hP2 hw3
              have hQ3 := blk_next hQ2 hw3
              have hR3 := blk_next hR2 hw3
              have hB3 := bel_next hB2 hw3
              obtain ⟨cP3_0, cP3_1, fP3_0, fP3_1, zP3⟩ := blk2 hP3
              obtain ⟨cQ3_0, cQ3_1, fQ3_0, fQ3_1, zQ3⟩ := blk2 hQ3
              obtain ⟨cR3_0, cR3_1, fR3_0, fR3_1, zR3⟩ := blk2 hR3
              go_wp2_with fail
              refine (sWsV_any _ _ [(a, b), (c, d), (f, g)] _ (WRow.of_lits _ (blk_new w3 _) rfl) (by simp)).mono ?_; rintro e w4 ⟨rfl, hw4'⟩
              have hw4 := (ownb hw4').2
              have hP4 := blk_next hP3 hw4
              have hQ4 := blk_next hQ3 hw4
              have hR4 := blk_next hR3 hw4
              have hB4 := bel_next hB3 hw4
              obtain ⟨cP4_0, cP4_1, fP4_0, fP4_1, zP4⟩ := blk2 hP4
              obtain ⟨cQ4_0, cQ4_1, fQ4_0, fQ4_1, zQ4⟩ := blk2 hQ4
              obtain ⟨cR4_0, cR4_1, fR4_0, fR4_1, zR4⟩ := blk2 hR4
              rw [HV.out]
              go_wp2_with fail
              refine (iSW_is _ H1.out).mono ?_; rintro e w5 ⟨rfl, hw5⟩
              have hP5 := blk_next hP4 hw5
              have hQ5 := blk_next hQ4 hw5
              have hR5 := blk_next hR4 hw5
              have hB5 := bel_next hB4 hw5
              obtain ⟨cP5_0, cP5_1, fP5_0, fP5_1, zP5⟩ := blk2 hP5
              obtain ⟨cQ5_0, cQ5_1, fQ5_0, fQ5_1, zQ5⟩ := blk2 hQ5
              obtain ⟨cR5_0, cR5_1, fR5_0, fR5_1, zR5⟩ := blk2 hR5
              go_wp2_with fail
              refine (iSW_is _ H2.out).mono ?_; rintro e w6 ⟨rfl, hw6⟩
              have hP6 := blk_next hP5 hw6
              have hQ6 := blk_next hQ5 hw6
              have hR6 := blk_next hR5 hw6
              have hB6 := bel_next hB5 hw6
              obtain ⟨cP6_0, cP6_1, fP6_0, fP6_1, zP6⟩ := blk2 hP6
              obtain ⟨cQ6_0, cQ6_1, fQ6_0, fQ6_1, zQ6⟩ := blk2 hQ6
              obtain ⟨cR6_0, cR6_1, fR6_0, fR6_1, zR6⟩ := blk2 hR6
              go_wp2_with fail
              refine (iBt_is _ HS.out).mono ?_; rintro e w7 ⟨rfl, hw7⟩
              have hP7 := blk_next hP6 hw7
              have hQ7 := blk_next hQ6 hw7
              have hR7 := blk_next hR6 hw7
              have hB7 := bel_next hB6 hw7
              obtain ⟨cP7_0, cP7_1, fP7_0, fP7_1, zP7⟩ := blk2 hP7
              obtain ⟨cQ7_0, cQ7_1, fQ7_0, fQ7_1, zQ7⟩ := blk2 hQ7
              obtain ⟨cR7_0, cR7_1, fR7_0, fR7_1, zR7⟩ := blk2 hR7
              go_wp2_with fail
              refine (iSW_is _ H3.out).mono ?_; rintro e w8 ⟨rfl, hw8⟩
              have hP8 := blk_next hP7 hw8
              have hQ8 := blk_next hQ7 hw8
              have hR8 := blk_next hR7 hw8
              have hB8 := bel_next hB7 hw8
              obtain ⟨cP8_0, cP8_1, fP8_0, fP8_1, zP8⟩ := blk2 hP8
              obtain ⟨cQ8_0, cQ8_1, fQ8_0, fQ8_1, zQ8⟩ := blk2 hQ8
              obtain ⟨cR8_0, cR8_1, fR8_0, fR8_1, zR8⟩ := blk2 hR8
              go_wp2_with fail
              refine (iBt_is _ HT.out).mono ?_; rintro e w9 ⟨rfl, hw9⟩
              have hP9 := blk_next hP8 hw9
              have hQ9 := blk_next hQ8 hw9
              have hR9 := blk_next hR8 hw9
              have hB9 := bel_next hB8 hw9
              obtain ⟨cP9_0, cP9_1, fP9_0, fP9_1, zP9⟩ := blk2 hP9
              obtain ⟨cQ9_0, cQ9_1, fQ9_0, fQ9_1, zQ9⟩ := blk2 hQ9
              obtain ⟨cR9_0, cR9_1, fR9_0, fR9_1, zR9⟩ := blk2 hR9
              go_wp2
              go_ret
              exact ⟨rfl, bel_next hB0 hB9⟩
            · have H1 := Lib.hid h1
              have H2 := Lib.hid h2
              have H3 := Lib.hid h3
              clear hv gw gf gt hbt h1 h2 h3
              go_wp2_with fail
              refine (iBt_is _ HB.out).mono ?_; rintro e w2 ⟨rfl, hw2⟩
              obtain ⟨hP2, hQ2, hR2, hB2⟩ := ownb3 hw2
              obtain ⟨cP2_0, cP2_1, fP2_0, fP2_1, zP2⟩ := blk2 hP2
              obtain ⟨cQ2_0, cQ2_1, fQ2_0, fQ2_1, zQ2⟩ := blk2 hQ2
              obtain ⟨cR2_0, cR2_1, fR2_0, fR2_1, zR2⟩ := blk2 hR2
              go_wp2_with fail
              refine (sBt_is _ HB.out).mono ?_; rintro e w3 ⟨rfl, hw3⟩
              have hP3 := blk_next hP2 hw3
              have hQ3 := blk_next hQ2 hw3
              have hR3 := blk_next hR2 hw3
              have hB3 := bel_next hB2 hw3
              obtain ⟨cP3_0, cP3_1, fP3_0, fP3_1, zP3⟩ := blk2 hP3
              obtain ⟨cQ3_0, cQ3_1, fQ3_0, fQ3_1, zQ3⟩ := blk2 hQ3
              obtain ⟨cR3_0, cR3_1, fR3_0, fR3_1, zR3⟩ := blk2 hR3
              go_wp2_with fail
              refine (sWsV_any _ _ [(a, b), (c, d), (f, g)] _ (WRow.of_lits _ (blk_new w3 _) rfl) (by simp)).mono ?_; rintro e w4 ⟨rfl, hw4'⟩
              have hw4 := (ownb hw4').2
              have hP4 := blk_next hP3 hw4
              have hQ4 := blk_next hQ3 hw4
              have hR4 := blk_next hR3 hw4
              have hB4 := bel_next hB3 hw4
              obtain ⟨cP4_0, cP4_1, fP4_0, fP4_1, zP4⟩ := blk2 hP4
              obtain ⟨cQ4_0, cQ4_1, fQ4_0, fQ4_1, zQ4⟩ := blk2 hQ4
              obtain ⟨cR4_0, cR4_1, fR4_0, fR4_1, zR4⟩ := blk2 hR4
              rw [HV.out]
              go_wp2_with fail
              refine (iSW_is _ H1.out).mono ?_; rintro e w5 ⟨rfl, hw5⟩
              have hP5 := blk_next hP4 hw5
              have hQ5 := blk_next hQ4 hw5
              have hR5 := blk_next hR4 hw5
              have hB5 := bel_next hB4 hw5
              obtain ⟨cP5_0, cP5_1, fP5_0, fP5_1, zP5⟩ := blk2 hP5
              obtain ⟨cQ5_0, cQ5_1, fQ5_0, fQ5_1, zQ5⟩ := blk2 hQ5
              obtain ⟨cR5_0, cR5_1, fR5_0, fR5_1, zR5⟩ := blk2 hR5
              go_wp2_with fail
              refine (iSW_is _ H2.out).mono ?_; rintro e w6 ⟨rfl, hw6⟩
              have hP6 := blk_next hP5 hw6
              have hQ6 := blk_next hQ5 hw6
              have hR6 := blk_next hR5 hw6
              have hB6 := bel_next hB5 hw6
              obtain ⟨cP6_0, cP6_1, fP6_0, fP6_1, zP6⟩ := blk2 hP6
              obtain ⟨cQ6_0, cQ6_1, fQ6_0, fQ6_1, zQ6⟩ := blk2 hQ6
              obtain ⟨cR6_0, cR6_1, fR6_0, fR6_1, zR6⟩ := blk2 hR6
              go_wp2_with fail
              refine (iBt_is _ HS.out).mono ?_; rintro e w7 ⟨rfl, hw7⟩
              have hP7 := blk_next hP6 hw7
              have hQ7 := blk_next hQ6 hw7
              have hR7 := blk_next hR6 hw7
              have hB7 := bel_next hB6 hw7
              obtain ⟨cP7_0, cP7_1, fP7_0, fP7_1, zP7⟩ := blk2 hP7
              obtain ⟨cQ7_0, cQ7_1, fQ7_0, fQ7_1, zQ7⟩ := blk2 hQ7
              obtain ⟨cR7_0, cR7_1, fR7_0, fR7_1, zR7⟩ := blk2 hR7
              go_wp2_with fail
              refine (iSW_is _ H3.out).mono ?_; rintro e w8 ⟨rfl, hw8⟩
              have hP8 := blk_next hP7 hw8
              have hQ8 := blk_next hQ7 hw8
              have hR8 := blk_next hR7 hw8
              have hB8 := bel_next hB7 hw8
              obtain ⟨cP8_0, cP8_1, fP8_0, fP8_1, zP8⟩ := blk2 hP8
              obtain ⟨cQ8_0, cQ8_1, fQ8_0, fQ8_1, zQ8⟩ := blk2 hQ8
              obtain ⟨cR8_0, cR8_1, fR8_0, fR8_1, zR8⟩ := blk2 hR8
              go_wp2
              go_ret
              exact ⟨rfl, bel_next hB0 hB8⟩
        · cases h2 : swB a b f g
          · cases h3 : swB c d f g
            · have H1 := Lib.hid h1
              have H2 := Lib.hid h2
              have H3 := Lib.hid h3
              have ht : btR f g c d f g = false := bt_to gf gt h3
              have HT := Lib.hid ht
              clear hv gw gf gt hbt h1 h2 h3 ht
              go_wp2_with fail
              refine (iBt_is _ HB.out).mono ?_; rintro e w2 ⟨rfl, hw2⟩
              obtain ⟨hP2, hQ2, hR2, hB2⟩ := ownb3 hw2
              obtain ⟨cP2_0, cP2_1, fP2_0, fP2_1, zP2⟩ := blk2 hP2
              obtain ⟨cQ2_0, cQ2_1, fQ2_0, fQ2_1, zQ2⟩ := blk2 hQ2
              obtain ⟨cR2_0, cR2_1, fR2_0, fR2_1, zR2⟩ := blk2 hR2
              go_wp2_with fail
              refine (sBt_is _ HB.out).mono ?_; rintro e w3 ⟨rfl, hw3⟩
              have hP3 := blk_next hP2 hw3
              have hQ3 := blk_next hQ2 hw3
              have hR3 := blk_next hR2 hw3
              have hB3 := bel_next hB2 hw3
              obtain ⟨cP3_0, cP3_1, fP3_0, fP3_1, zP3⟩ := blk2 hP3
              obtain ⟨cQ3_0, cQ3_1, fQ3_0, fQ3_1, zQ3⟩ := blk2 hQ3
              obtain ⟨cR3_0, cR3_1, fR3_0, fR3_1, zR3⟩ := blk2 hR3
              go_wp2_with fail
              refine (sWsV_any _ _ [(a, b), (c, d), (f, g)] _ (WRow.of_lits _ (blk_new w3 _) rfl) (by simp)).mono ?_; rintro e w4 ⟨rfl, hw4'⟩
              have hw4 := (ownb hw4').2
              have hP4 := blk_next hP3 hw4
              have hQ4 := blk_next hQ3 hw4
              have hR4 := blk_next hR3 hw4
              have hB4 := bel_next hB3 hw4
              obtain ⟨cP4_0, cP4_1, fP4_0, fP4_1, zP4⟩ := blk2 hP4
              obtain ⟨cQ4_0, cQ4_1, fQ4_0, fQ4_1, zQ4⟩ := blk2 hQ4
              obtain ⟨cR4_0, cR4_1, fR4_0, fR4_1, zR4⟩ := blk2 hR4
              rw [HV.out]
              go_wp2_with fail
              refine (iSW_is _ H1.out).mono ?_; rintro e w5 ⟨rfl, hw5⟩
              have hP5 := blk_next hP4 hw5
              have hQ5 := blk_next hQ4 hw5
              have hR5 := blk_next hR4 hw5
              have hB5 := bel_next hB4 hw5
              obtain ⟨cP5_0, cP5_1, fP5_0, fP5_1, zP5⟩ := blk2 hP5
              obtain ⟨cQ5_0, cQ5_1, fQ5_0, fQ5_1, zQ5⟩ := blk2 hQ5
              obtain ⟨cR5_0, cR5_1, fR5_0, fR5_1, zR5⟩ := blk2 hR5
              go_wp2_with fail
              refine (iBt_is _ HS.out).mono ?_; rintro e w6 ⟨rfl, hw6⟩
              have hP6 := blk_next hP5 hw6
              have hQ6 := blk_next hQ5 hw6
              have hR6 := blk_next hR5 hw6
              have hB6 := bel_next hB5 hw6
              obtain ⟨cP6_0, cP6_1, fP6_0, fP6_1, zP6⟩ := blk2 hP6
              obtain ⟨cQ6_0, cQ6_1, fQ6_0, fQ6_1, zQ6⟩ := blk2 hQ6
              obtain ⟨cR6_0, cR6_1, fR6_0, fR6_1, zR6⟩ := blk2 hR6
              go_wp2_with fail
              refine (iSW_is _ H3.out).mono ?_; rintro e w7 ⟨rfl, hw7⟩
              have hP7 := blk_next hP6 hw7
              have hQ7 := blk_next hQ6 hw7
              have hR7 := blk_next hR6 hw7
              have hB7 := bel_next hB6 hw7
              obtain ⟨cP7_0, cP7_1, fP7_0, fP7_1, zP7⟩ := blk2 hP7
              obtain ⟨cQ7_0, cQ7_1, fQ7_0, fQ7_1, zQ7⟩ := blk2 hQ7
              obtain ⟨cR7_0, cR7_1, fR7_0, fR7_1, zR7⟩ := blk2 hR7
              go_wp2_with fail
              refine (iBt_is _ HT.out).mono ?_; rintro e w8 ⟨rfl, hw8⟩
              have hP8 := blk_next hP7 hw8
              have hQ8 := blk_next hQ7 hw8
              have hR8 := blk_next hR7 hw8
              have hB8 := bel_next hB7 hw8
              obtain ⟨cP8_0, cP8_1, fP8_0, fP8_1, zP8⟩ := blk2 hP8
              obtain ⟨cQ8_0, cQ8_1, fQ8_0, fQ8_1, zQ8⟩ := blk2 hQ8
              obtain ⟨cR8_0, cR8_1, fR8_0, fR8_1, zR8⟩ := blk2 hR8
              go_wp2
              go_ret
              exact ⟨rfl, bel_next hB0 hB8⟩
            · have H1 := Lib.hid h1
              have H2 := Lib.hid h2
              have H3 := Lib.hid h3
              clear hv gw gf gt hbt h1 h2 h3
              go_wp2_with fail
              refine (iBt_is _ HB.out).mono ?_; rintro e w2 ⟨rfl, hw2⟩
              obtain ⟨hP2, hQ2, hR2, hB2⟩ := ownb3 hw2
              obtain ⟨cP2_0, cP2_1, fP2_0, fP2_1, zP2⟩ := blk2 hP2
              obtain ⟨cQ2_0, cQ2_1, fQ2_0, fQ2_1, zQ2⟩ := blk2 hQ2
              obtain ⟨cR2_0, cR2_1, fR2_0, fR2_1, zR2⟩ := blk2 hR2
              go_wp2_with fail
              refine (sBt_is _ HB.out).mono ?_; rintro e w3 ⟨rfl, hw3⟩
              have hP3 := blk_next hP2 hw3
              have hQ3 := blk_next hQ2 hw3
              have hR3 := blk_next hR2 hw3
              have hB3 := bel_next hB2 hw3
              obtain ⟨cP3_0, cP3_1, fP3_0, fP3_1, zP3⟩ := blk2 hP3
              obtain ⟨cQ3_0, cQ3_1, fQ3_0, fQ3_1, zQ3⟩ := blk2 hQ3
              obtain ⟨cR3_0, cR3_1, fR3_0, fR3_1, zR3⟩ := blk2 hR3
              go_wp2_with fail
              refine (sWsV_any _ _ [(a, b), (c, d), (f, g)] _ (WRow.of_lits _ (blk_new w3 _) rfl) (by simp)).mono ?_; rintro e w4 ⟨rfl, hw4'⟩
              have hw4 := (ownb hw4').2
              have hP4 := blk_next hP3 hw4
              have hQ4 := blk_next hQ3 hw4
              have hR4 := blk_next hR3 hw4
              have hB4 := bel_next hB3 hw4
              obtain ⟨cP4_0, cP4_1, fP4_0, fP4_1, zP4⟩ := blk2 hP4
              obtain ⟨cQ4_0, cQ4_1, fQ4_0, fQ4_1, zQ4⟩ := blk2 hQ4
              obtain ⟨cR4_0, cR4_1, fR4_0, fR4_1, zR4⟩ := blk2 hR4
              rw [HV.out]
              go_wp2_with fail
              refine (iSW_is _ H1.out).mono ?_; rintro e w5 ⟨rfl, hw5⟩
              have hP5 := blk_next hP4 hw5
              have hQ5 := blk_next hQ4 hw5
              have hR5 := blk_next hR4 hw5
              have hB5 := bel_next hB4 hw5
              obtain ⟨cP5_0, cP5_1, fP5_0, fP5_1, zP5⟩ := blk2 hP5
              obtain ⟨cQ5_0, cQ5_1, fQ5_0, fQ5_1, zQ5⟩ := blk2 hQ5
              obtain ⟨cR5_0, cR5_1, fR5_0, fR5_1, zR5⟩ := blk2 hR5
              go_wp2_with fail
              refine (iBt_is _ HS.out).mono ?_; rintro e w6 ⟨rfl, hw6⟩
              have hP6 := blk_next hP5 hw6
              have hQ6 := blk_next hQ5 hw6
              have hR6 := blk_next hR5 hw6
              have hB6 := bel_next hB5 hw6
              obtain ⟨cP6_0, cP6_1, fP6_0, fP6_1, zP6⟩ := blk2 hP6
              obtain ⟨cQ6_0, cQ6_1, fQ6_0, fQ6_1, zQ6⟩ := blk2 hQ6
              obtain ⟨cR6_0, cR6_1, fR6_0, fR6_1, zR6⟩ := blk2 hR6
              go_wp2_with fail
              refine (iSW_is _ H3.out).mono ?_; rintro e w7 ⟨rfl, hw7⟩
              have hP7 := blk_next hP6 hw7
              have hQ7 := blk_next hQ6 hw7
              have hR7 := blk_next hR6 hw7
              have hB7 := bel_next hB6 hw7
              obtain ⟨cP7_0, cP7_1, fP7_0, fP7_1, zP7⟩ := blk2 hP7
              obtain ⟨cQ7_0, cQ7_1, fQ7_0, fQ7_1, zQ7⟩ := blk2 hQ7
              obtain ⟨cR7_0, cR7_1, fR7_0, fR7_1, zR7⟩ := blk2 hR7
              go_wp2
              go_ret
              exact ⟨rfl, bel_next hB0 hB7⟩
          · cases h3 : swB c d f g
            · have H1 := Lib.hid h1
              have H2 := Lib.hid h2
              have H3 := Lib.hid h3
              have ht : btR f g c d f g = false := bt_to gf gt h3
              have HT := Lib.hid ht
              clear hv gw gf gt hbt h1 h2 h3 ht
              go_wp2_with fail
              refine (iBt_is _ HB.out).mono ?_; rintro e w2 ⟨rfl, hw2⟩
              obtain ⟨hP2, hQ2, hR2, hB2⟩ := ownb3 hw2
              obtain ⟨cP2_0, cP2_1, fP2_0, fP2_1, zP2⟩ := blk2 hP2
              obtain ⟨cQ2_0, cQ2_1, fQ2_0, fQ2_1, zQ2⟩ := blk2 hQ2
              obtain ⟨cR2_0, cR2_1, fR2_0, fR2_1, zR2⟩ := blk2 hR2
              go_wp2_with fail
              refine (sBt_is _ HB.out).mono ?_; rintro e w3 ⟨rfl, hw3⟩
              have hP3 := blk_next hP2 hw3
              have hQ3 := blk_next hQ2 hw3
              have hR3 := blk_next hR2 hw3
              have hB3 := bel_next hB2 hw3
              obtain ⟨cP3_0, cP3_1, fP3_0, fP3_1, zP3⟩ := blk2 hP3
              obtain ⟨cQ3_0, cQ3_1, fQ3_0, fQ3_1, zQ3⟩ := blk2 hQ3
              obtain ⟨cR3_0, cR3_1, fR3_0, fR3_1, zR3⟩ := blk2 hR3
              go_wp2_with fail
              refine (sWsV_any _ _ [(a, b), (c, d), (f, g)] _ (WRow.of_lits _ (blk_new w3 _) rfl) (by simp)).mono ?_; rintro e w4 ⟨rfl, hw4'⟩
              have hw4 := (ownb hw4').2
              have hP4 := blk_next hP3 hw4
              have hQ4 := blk_next hQ3 hw4
              have hR4 := blk_next hR3 hw4
              have hB4 := bel_next hB3 hw4
              obtain ⟨cP4_0, cP4_1, fP4_0, fP4_1, zP4⟩ := blk2 hP4
              obtain ⟨cQ4_0, cQ4_1, fQ4_0, fQ4_1, zQ4⟩ := blk2 hQ4
              obtain ⟨cR4_0, cR4_1, fR4_0, fR4_1, zR4⟩ := blk2 hR4
              rw [HV.out]
              go_wp2_with fail
              refine (iSW_is _ H1.out).mono ?_; rintro e w5 ⟨rfl, hw5⟩
              have hP5 := blk_next hP4 hw5
              have hQ5 := blk_next hQ4 hw5
              have hR5 := blk_next hR4 hw5
              have hB5 := bel_next hB4 hw5
              obtain ⟨cP5_0, cP5_1, fP5_0, fP5_1, zP5⟩ := blk2 hP5
              obtain ⟨cQ5_0, cQ5_1, fQ5_0, fQ5_1, zQ5⟩ := blk2 hQ5
              obtain ⟨cR5_0, cR5_1, fR5_0, fR5_1, zR5⟩ := blk2 hR5
              go_wp2_with fail
              refine (iBt_is _ HS.out).mono ?_; rintro e w6 ⟨rfl, hw6⟩
              have hP6 := blk_next hP5 hw6
              have hQ6 := blk_next hQ5 hw6
              have hR6 := blk_next hR5 hw6
              have hB6 := bel_next hB5 hw6
              obtain ⟨cP6_0, cP6_1, fP6_0, fP6_1, zP6⟩ := blk2 hP6
              obtain ⟨cQ6_0, cQ6_1, fQ6_0, fQ6_1, zQ6⟩ := blk2 hQ6
              obtain ⟨cR6_0, cR6_1, fR6_0, fR6_1, zR6⟩ := blk2 hR6
              go_wp2_with fail
              refine (iSW_is _ H3.out).mono ?_; rintro e w7 ⟨rfl, hw7⟩
              have hP7 := blk_next hP6 hw7
              have hQ7 := blk_next hQ6 hw7
              have hR7 := blk_next hR6 hw7
              have hB7 := bel_next hB6 hw7
              obtain ⟨cP7_0, cP7_1, fP7_0, fP7_1, zP7⟩ := blk2 hP7
              obtain ⟨cQ7_0, cQ7_1, fQ7_0, fQ7_1, zQ7⟩ := blk2 hQ7
              obtain ⟨cR7_0, cR7_1, fR7_0, fR7_1, zR7⟩ := blk2 hR7
              go_wp2_with fail
              refine (iBt_is _ HT.out).mono ?_; rintro e w8 ⟨rfl, hw8⟩
              have hP8 := blk_next hP7 hw8
              have hQ8 := blk_next hQ7 hw8
              have hR8 := blk_next hR7 hw8
              have hB8 := bel_next hB7 hw8
              obtain ⟨cP8_0, cP8_1, fP8_0, fP8_1, zP8⟩ := blk2 hP8
              obtain ⟨cQ8_0, cQ8_1, fQ8_0, fQ8_1, zQ8⟩ := blk2 hQ8
              obtain ⟨cR8_0, cR8_1, fR8_0, fR8_1, zR8⟩ := blk2 hR8
              go_wp2
              go_ret
              exact ⟨rfl, bel_next hB0 hB8⟩
            · have H1 := Lib.hid h1
              have H2 := Lib.hid h2
              have H3 := Lib.hid h3
              clear hv gw gf gt hbt h1 h2 h3
              go_wp2_with fail
              refine (iBt_is _ HB.out).mono ?_; rintro e w2 ⟨rfl, hw2⟩
              obtain ⟨hP2, hQ2, hR2, hB2⟩ := ownb3 hw2
              obtain ⟨cP2_0, cP2_1, fP2_0, fP2_1, zP2⟩ := blk2 hP2
              obtain ⟨cQ2_0, cQ2_1, fQ2_0, fQ2_1, zQ2⟩ := blk2 hQ2
              obtain ⟨cR2_0, cR2_1, fR2_0, fR2_1, zR2⟩ := blk2 hR2
              go_wp2_with fail
              refine (sBt_is _ HB.out).mono ?_; rintro e w3 ⟨rfl, hw3⟩
              have hP3 := blk_next hP2 hw3
              have hQ3 := blk_next hQ2 hw3
              have hR3 := blk_next hR2 hw3
              have hB3 := bel_next hB2 hw3
              obtain ⟨cP3_0, cP3_1, fP3_0, fP3_1, zP3⟩ := blk2 hP3
              obtain ⟨cQ3_0, cQ3_1, fQ3_0, fQ3_1, zQ3⟩ := blk2 hQ3
              obtain ⟨cR3_0, cR3_1, fR3_0, fR3_1, zR3⟩ := blk2 hR3
              go_wp2_with fail
              refine (sWsV_any _ _ [(a, b), (c, d), (f, g)] _ (WRow.of_lits _ (blk_new w3 _) rfl) (by simp)).mono ?_; rintro e w4 ⟨rfl, hw4'⟩
              have hw4 := (ownb hw4').2
              have hP4 := blk_next hP3 hw4
              have hQ4 := blk_next hQ3 hw4
              have hR4 := blk_next hR3 hw4
              have hB4 := bel_next hB3 hw4
              obtain ⟨cP4_0, cP4_1, fP4_0, fP4_1, zP4⟩ := blk2 hP4
              obtain ⟨cQ4_0, cQ4_1, fQ4_0, fQ4_1, zQ4⟩ := blk2 hQ4
              obtain ⟨cR4_0, cR4_1, fR4_0, fR4_1, zR4⟩ := blk2 hR4
              rw [HV.out]
              go_wp2_with fail
              refine (iSW_is _ H1.out).mono ?_; rintro e w5 ⟨rfl, hw5⟩
              have hP5 := blk_next hP4 hw5
              have hQ5 := blk_next hQ4 hw5
              have hR5 := blk_next hR4 hw5
              have hB5 := bel_next hB4 hw5
              obtain ⟨cP5_0, cP5_1, fP5_0, fP5_1, zP5⟩ := blk2 hP5
              obtain ⟨cQ5_0, cQ5_1, fQ5_0, fQ5_1, zQ5⟩ := blk2 hQ5
              obtain ⟨cR5_0, cR5_1, fR5_0, fR5_1, zR5⟩ := blk2 hR5
              go_wp2_with fail
              refine (iBt_is _ HS.out).mono ?_; rintro e w6 ⟨rfl, hw6⟩
              have hP6 := blk_next hP5 hw6
              have hQ6 := blk_next hQ5 hw6
              have hR6 := blk_next hR5 hw6
              have hB6 := bel_next hB5 hw6
              obtain ⟨cP6_0, cP6_1, fP6_0, fP6_1, zP6⟩ := blk2 hP6
              obtain ⟨cQ6_0, cQ6_1, fQ6_0, fQ6_1, zQ6⟩ := blk2 hQ6
              obtain ⟨cR6_0, cR6_1, fR6_0, fR6_1, zR6⟩ := blk2 hR6
              go_wp2_with fail
              refine (iSW_is _ H3.out).mono ?_; rintro e w7 ⟨rfl, hw7⟩
              have hP7 := blk_next hP6 hw7
              have hQ7 := blk_next hQ6 hw7
              have hR7 := blk_next hR6 hw7
              have hB7 := bel_next hB6 hw7
              obtain ⟨cP7_0, cP7_1, fP7_0, fP7_1, zP7⟩ := blk2 hP7
              obtain ⟨cQ7_0, cQ7_1, fQ7_0, fQ7_1, zQ7⟩ := blk2 hQ7
              obtain ⟨cR7_0, cR7_1, fR7_0, fR7_1, zR7⟩ := blk2 hR7
              go_wp2
              go_ret
              exact ⟨rfl, bel_next hB0 hB7⟩

set_option maxRecDepth 100000 in
theorem lifted (os : Os) (started : os.Started) (H : Type) (enc : TypeId × Value → H) :
    ReturnsInHanded {} Try.checked os 6 .any (Rows.fnBetweenSpec.pre6 enc Try.prog Try.f6 Rows.fnBetweenRow.domain false) (Rows.fnBetweenSpec.post enc Try.prog Try.f6 false true false false) := by
  refine returnsInHanded_of_change (C := Try.checked) own started (by kernel_rfl) Try.func6
    (ChangeSpec.witness6 (enc := enc) (C := Try.checked) false ⟨#[], #[.slice none 0 0], []⟩ 8 (by kernel_rfl) (by kernel_rfl) (by kernel_rfl) (by kernel_rfl)) ?_
  intro W base args ds gs before hval0 hW hcnd _
  have hval : ∀ (j : Nat) t v, Try.f6.params[j]? = some t → args[j]? = some v → Value.okWide Try.prog W .any base t v := hval0
  have hW' := hW
  obtain ⟨p, q, hA0, hV, rfl, hfz, hnd⟩ := hW
  have hA : DataW.TrodAll enc Try.prog W 0 (fun _ => true) true Try.f6.params.toList args.toList ds p := hA0
  rw [Try.params6] at hA hval
  obtain ⟨v0, vs0, d0, ds0, p0, q0, hargs, rfl, rfl, h0, r0⟩ := trodAll_cons hA
  obtain ⟨rfl, rfl, rfl⟩ := trodAll_nil r0
  obtain rfl : args = #[v0] := by cases args; simp_all
  obtain ⟨rfl, rfl⟩ := trodVars_none hV
  have k0 := h0
  have lt0 : ∀ x ∈ p0, x.block < W.heap.size := by obtain ⟨m, hm⟩ := k0; exact DataW.trod_lt m _ _ _ hm
  obtain ⟨a0, len0, cap0, rfl⟩ := okWide_slice Try.underlying22 (hval 0 22 v0 rfl rfl)
  have w0 : CodeOk W a0 len0 cap0 := by
    obtain ⟨fuel, hf⟩ := h0
    rcases open_ints Try.underlying22 Try.underlying5 (by kernel_rfl) hf with ⟨hcs, _⟩ | ⟨x, l, c, zs, hcs, _, hl, hm, hz, _, hcell, hwz⟩
    · simp [Value.cells] at hcs
      obtain ⟨rfl, rfl, rfl⟩ := hcs
      exact code_nil W
    · simp [Value.cells] at hcs
      obtain ⟨rfl, rfl, rfl⟩ := hcs
      exact code_ok hl hm (by simp at hz; omega) hcell hwz
  clear hA0 hval0
  refine (walk W a0 len0 cap0 w0).mono fun e W' ⟨he, bel⟩ => ?_
  subst he
  exact ⟨_, rfl, _, _, _, [], _, [], hW', trodAll_mk1 (shut_bool Try.underlying4 _), (trodAll_cons_mk (Below.trod laidOut (by kernel_rfl) (of_decide_eq_true (by kernel_rfl)) k0 bel lt0) trodAll_mk0), rfl, bel.frame _, fun h => by cases h⟩

theorem over : Rows.fnBetweenRow.holds Try.pinned (OpenSpec.ofChange Rows.fnBetweenSpec) :=
  OpenClaim.holds_of_wide 6 Try.f6 rfl rfl rfl rfl rfl rfl rfl ⟨rfl, rfl, rfl, rfl, rfl⟩ rfl rfl rfl rfl rfl (by kernel_rfl) Try.func6 (by kernel_rfl)
    (of_decide_eq_true (by kernel_rfl)) (by unfold Func.isWrapper; first | (rw [if_pos (by decide +kernel)]; kernel_rfl) | (rw [if_neg (by decide +kernel)]; exact ⟨rfl, rfl⟩))
    (fun os started H enc _ => lifted os started H enc)

/-- The statement. -/
theorem proved : Rows.FnBetweenSaid :=
  over
#print axioms proved
end Go.Proofs.Ytbegajmdadkknab.fnBetween
