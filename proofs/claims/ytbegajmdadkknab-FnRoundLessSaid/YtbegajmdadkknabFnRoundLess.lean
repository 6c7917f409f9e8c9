/- FnRoundLess: whatever the input, the law returns true, and its arguments read as they did. No conditions beyond those of the statement's row. -/
import Derived.Test.YtbegajmdadkknabDr5
import Derived.Test.YtbegajmdadkknabWc
import Derived.Test.YtbegajmdadkknabWrl
import Derived.Test.YtbegajmdadkknabHlp2
import Derived.Test.YtbegajmdadkknabLp
namespace Go.Proofs.Ytbegajmdadkknab.fnRoundLess
open Go.Proofs.Ytbegajmdadkknab
open Go.ChangeShapes Go.WideShapes Go.ChangeAt Go.RowKit Go.Joins
set_option linter.unusedVariables false
set_option linter.unusedSimpArgs false
set_option linter.unnecessarySimpa false

theorem own : ownKnob Try.prog.godebug = none := by kernel_rfl
theorem laidOut : laidOutB Try.prog = true := by kernel_rfl

set_option maxRecDepth 100000 in
set_option maxHeartbeats 4000000 in
theorem walk (w : World) (a0 : Option Addr) (len0 cap0 : Nat) (w0 : CodeOk w a0 len0 cap0) (a1 : Option Addr) (len1 cap1 : Nat) (w1 : CodeOk w a1 len1 cap1) :
    Calls Try.prog 3 #[.slice a0 len0 cap0, .slice a1 len1 cap1] w fun e w' => e = .returned (.bool true) ∧ Below w.heap.size w w' := by
  have w0' := w0.2.1
  unfold maxLen at w0'
  have w1' := w1.2.1
  unfold maxLen at w1'
  have hle0 := w0.1
  have hle1 := w1.1
  have HW := Lib.hid w0
  have HW1 := Lib.hid w1
  clear w0 w1
  by_cases hl : 1048576 < len0
  · go_enter Try.func3, Try.ntmps3
    go_wp2
    go_ret
    exact ⟨rfl, Below.refl _ _⟩
  · by_cases hl1 : 1048576 < len1
    · go_enter Try.func3, Try.ntmps3
      go_wp2
      go_ret
      exact ⟨rfl, Below.refl _ _⟩
    · go_enter Try.func3, Try.ntmps3
      go_wp2_with fail
      refine (drRoundLess_any _ _ _ _ HW.out).mono ?_; rintro e w1 ⟨a, b, c, d, rfl, a0, a1, b0, b1, c0, c1, d0, d1, hB0⟩
      have R3 : Hid (rlB a b a b = false) := rl_irrefl a b
      have R4 : Hid (wvB (2 * a) (2 * b) = true → rlB (2 * a) (2 * b) c d = rlB a b c d) := fun h => rl_two h
      cases ok : rlB a b c d
      · go_wp2_with fail
        refine (iRL_any _ _ _ _ _).mono ?_; rintro e w2 ⟨rfl, hw2⟩
        obtain ⟨hP2, hQ2, hB2⟩ := ownb2 hw2
        obtain ⟨cP2_0, cP2_1, fP2_0, fP2_1, zP2⟩ := blk2 hP2
        obtain ⟨cQ2_0, cQ2_1, fQ2_0, fQ2_1, zQ2⟩ := blk2 hQ2
        go_wp2_with fail
        refine (sRL_any _ _ _ _ _).mono ?_; rintro e w3 ⟨rfl, hw3⟩
        have hP3 := blk_next hP2 hw3
        have hQ3 := blk_next hQ2 hw3
        have hB3 := bel_next hB2 hw3
        go_wp2_with fail
        refine (drRoundLess_any _ _ _ _ (code_below HW1.out (bel_next hB0 hB3))).mono ?_; rintro e w4 ⟨g, k, g', k', rfl, g0, g1, k0, k1, g2, g3, k2, k3, hw4⟩
        have hP4 := blk_next hP3 hw4
        have hQ4 := blk_next hQ3 hw4
        have hB4 := bel_next hB3 hw4
        obtain ⟨cP4_0, cP4_1, fP4_0, fP4_1, zP4⟩ := blk2 (blk_old (blk_old hP4 (.cells #[.int .i64 (g), .int .i64 (k)] 24)) (.cells #[.int .i64 (g'), .int .i64 (k')] 24))
        obtain ⟨cQ4_0, cQ4_1, fQ4_0, fQ4_1, zQ4⟩ := blk2 (blk_old (blk_old hQ4 (.cells #[.int .i64 (g), .int .i64 (k)] 24)) (.cells #[.int .i64 (g'), .int .i64 (k')] 24))
        have hB4' := (hB4.alloc hB4.size (.cells #[.int .i64 (g), .int .i64 (k)] 24)).alloc (by have := hB4.size; simp; omega) (.cells #[.int .i64 (g'), .int .i64 (k')] 24)
        obtain ⟨lP0, lP1, lP2, lP3, lP4⟩ := blk2 (blk_old (blk_old (blk_old hP4 (.cells #[.int .i64 (g), .int .i64 (k)] 24)) (.cells #[.int .i64 (g'), .int .i64 (k')] 24)) (.cells #[.int .i64 (2 * a), .int .i64 (2 * b)] 24))
        obtain ⟨lQ0, lQ1, lQ2, lQ3, lQ4⟩ := blk2 (blk_old (blk_old (blk_old hQ4 (.cells #[.int .i64 (g), .int .i64 (k)] 24)) (.cells #[.int .i64 (g'), .int .i64 (k')] 24)) (.cells #[.int .i64 (2 * a), .int .i64 (2 * b)] 24))
        go_wp2_with fail
        refine (iRL_any _ _ _ _ _).mono ?_; rintro e w10 ⟨rfl, hw10⟩
        obtain ⟨_, _, hL10, hE10⟩ := ownb3 hw10
        have hP10 := blk_next hP4 hE10
        have hQ10 := blk_next hQ4 hE10
        have hB10 := bel_next hB4 hE10
        obtain ⟨cP10_0, cP10_1, fP10_0, fP10_1, zP10⟩ := blk2 hP10
        obtain ⟨cQ10_0, cQ10_1, fQ10_0, fQ10_1, zQ10⟩ := blk2 hQ10
        obtain ⟨cL10_0, cL10_1, fL10_0, fL10_1, zL10⟩ := blk2 hL10
        rw [R3.out]
        go_wp2_with fail
        refine (iWV_any _ _ _).mono ?_; rintro e w11 ⟨rfl, hw11⟩
        have hP11 := blk_next hP10 hw11
        have hQ11 := blk_next hQ10 hw11
        have hL11 := blk_next hL10 hw11
        have hB11 := bel_next hB10 hw11
        obtain ⟨cP11_0, cP11_1, fP11_0, fP11_1, zP11⟩ := blk2 hP11
        obtain ⟨cQ11_0, cQ11_1, fQ11_0, fQ11_1, zQ11⟩ := blk2 hQ11
        obtain ⟨cL11_0, cL11_1, fL11_0, fL11_1, zL11⟩ := blk2 hL11
        cases hwl : wvB (2 * a) (2 * b)
        · go_wp2_with fail
          refine (alive_bel _).mono ?_; rintro e w12 ⟨rfl, hw12⟩
          have hP12 := blk_next hP11 hw12
          have hQ12 := blk_next hQ11 hw12
          have hL12 := blk_next hL11 hw12
          have hB12 := bel_next hB11 hw12
          obtain ⟨cP12_0, cP12_1, fP12_0, fP12_1, zP12⟩ := blk2 hP12
          obtain ⟨cQ12_0, cQ12_1, fQ12_0, fQ12_1, zQ12⟩ := blk2 hQ12
          obtain ⟨cL12_0, cL12_1, fL12_0, fL12_1, zL12⟩ := blk2 hL12
          go_wp2
          go_ret
          exact ⟨rfl, bel_next hB0 hB12⟩
        · have hr := R4.out hwl
          rw [ok] at hr
          have HR := Lib.hid hr
          clear hr
          go_wp2_with fail
          refine (iRL_any _ _ _ _ _).mono ?_; rintro e w12 ⟨rfl, hw12⟩
          have hP12 := blk_next hP11 hw12
          have hQ12 := blk_next hQ11 hw12
          have hL12 := blk_next hL11 hw12
          have hB12 := bel_next hB11 hw12
          obtain ⟨cP12_0, cP12_1, fP12_0, fP12_1, zP12⟩ := blk2 hP12
          obtain ⟨cQ12_0, cQ12_1, fQ12_0, fQ12_1, zQ12⟩ := blk2 hQ12
          obtain ⟨cL12_0, cL12_1, fL12_0, fL12_1, zL12⟩ := blk2 hL12
          rw [HR.out]
          go_wp2_with fail
          refine (alive_bel _).mono ?_; rintro e w13 ⟨rfl, hw13⟩
          have hP13 := blk_next hP12 hw13
          have hQ13 := blk_next hQ12 hw13
          have hL13 := blk_next hL12 hw13
          have hB13 := bel_next hB12 hw13
          obtain ⟨cP13_0, cP13_1, fP13_0, fP13_1, zP13⟩ := blk2 hP13
          obtain ⟨cQ13_0, cQ13_1, fQ13_0, fQ13_1, zQ13⟩ := blk2 hQ13
          obtain ⟨cL13_0, cL13_1, fL13_0, fL13_1, zL13⟩ := blk2 hL13
          go_wp2
          go_ret
          exact ⟨rfl, bel_next hB0 hB13⟩
      · have R1 : Hid (rlB c d a b = false) := rl_asymm ok
        go_wp2_with fail
        refine (iRL_any _ _ _ _ _).mono ?_; rintro e w2 ⟨rfl, hw2⟩
        obtain ⟨hP2, hQ2, hB2⟩ := ownb2 hw2
        obtain ⟨cP2_0, cP2_1, fP2_0, fP2_1, zP2⟩ := blk2 hP2
        obtain ⟨cQ2_0, cQ2_1, fQ2_0, fQ2_1, zQ2⟩ := blk2 hQ2
        go_wp2_with fail
        refine (sRL_any _ _ _ _ _).mono ?_; rintro e w3 ⟨rfl, hw3⟩
        have hP3 := blk_next hP2 hw3
        have hQ3 := blk_next hQ2 hw3
        have hB3 := bel_next hB2 hw3
        go_wp2_with fail
        refine (drRoundLess_any _ _ _ _ (code_below HW1.out (bel_next hB0 hB3))).mono ?_; rintro e w4 ⟨g, k, g', k', rfl, g0, g1, k0, k1, g2, g3, k2, k3, hw4⟩
        have hP4 := blk_next hP3 hw4
        have hQ4 := blk_next hQ3 hw4
        have hB4 := bel_next hB3 hw4
        obtain ⟨cP4_0, cP4_1, fP4_0, fP4_1, zP4⟩ := blk2 (blk_old (blk_old hP4 (.cells #[.int .i64 (g), .int .i64 (k)] 24)) (.cells #[.int .i64 (g'), .int .i64 (k')] 24))
        obtain ⟨cQ4_0, cQ4_1, fQ4_0, fQ4_1, zQ4⟩ := blk2 (blk_old (blk_old hQ4 (.cells #[.int .i64 (g), .int .i64 (k)] 24)) (.cells #[.int .i64 (g'), .int .i64 (k')] 24))
        have hB4' := (hB4.alloc hB4.size (.cells #[.int .i64 (g), .int .i64 (k)] 24)).alloc (by have := hB4.size; simp; omega) (.cells #[.int .i64 (g'), .int .i64 (k')] 24)
        cases hbc : rlB c d g k
        · go_wp2_with fail
          refine (iRL_any _ _ _ _ _).mono ?_; rintro e w5 ⟨rfl, hw5⟩
          obtain ⟨hC5, _, hE5⟩ := ownb2 hw5
          have hP5 := blk_next hP4 hE5
          have hQ5 := blk_next hQ4 hE5
          have hB5 := bel_next hB4 hE5
          obtain ⟨cP5_0, cP5_1, fP5_0, fP5_1, zP5⟩ := blk2 hP5
          obtain ⟨cQ5_0, cQ5_1, fQ5_0, fQ5_1, zQ5⟩ := blk2 hQ5
          obtain ⟨cC5_0, cC5_1, fC5_0, fC5_1, zC5⟩ := blk2 hC5
          rw [hbc]
          go_wp2_with fail
          obtain ⟨lP0, lP1, lP2, lP3, lP4⟩ := blk2 (blk_old hP5 (.cells #[.int .i64 (2 * a), .int .i64 (2 * b)] 24))
          obtain ⟨lQ0, lQ1, lQ2, lQ3, lQ4⟩ := blk2 (blk_old hQ5 (.cells #[.int .i64 (2 * a), .int .i64 (2 * b)] 24))
          go_wp2_with fail
          refine (iRL_any _ _ _ _ _).mono ?_; rintro e w10 ⟨rfl, hw10⟩
          obtain ⟨hL10, hE10⟩ := ownb hw10
          have hP10 := blk_next hP5 hE10
          have hQ10 := blk_next hQ5 hE10
          have hB10 := bel_next hB5 hE10
          obtain ⟨cP10_0, cP10_1, fP10_0, fP10_1, zP10⟩ := blk2 hP10
          obtain ⟨cQ10_0, cQ10_1, fQ10_0, fQ10_1, zQ10⟩ := blk2 hQ10
          obtain ⟨cL10_0, cL10_1, fL10_0, fL10_1, zL10⟩ := blk2 hL10
          rw [R1.out]
          go_wp2_with fail
          refine (iRL_any _ _ _ _ _).mono ?_; rintro e w11 ⟨rfl, hw11⟩
          have hP11 := blk_next hP10 hw11
          have hQ11 := blk_next hQ10 hw11
          have hL11 := blk_next hL10 hw11
          have hB11 := bel_next hB10 hw11
          obtain ⟨cP11_0, cP11_1, fP11_0, fP11_1, zP11⟩ := blk2 hP11
          obtain ⟨cQ11_0, cQ11_1, fQ11_0, fQ11_1, zQ11⟩ := blk2 hQ11
          obtain ⟨cL11_0, cL11_1, fL11_0, fL11_1, zL11⟩ := blk2 hL11
          rw [R3.out]
          go_wp2_with fail
          refine (iWV_any _ _ _).mono ?_; rintro e w12 ⟨rfl, hw12⟩
          have hP12 := blk_next hP11 hw12
          have hQ12 := blk_next hQ11 hw12
          have hL12 := blk_next hL11 hw12
          have hB12 := bel_next hB11 hw12
          obtain ⟨cP12_0, cP12_1, fP12_0, fP12_1, zP12⟩ := blk2 hP12
          obtain ⟨cQ12_0, cQ12_1, fQ12_0, fQ12_1, zQ12⟩ := blk2 hQ12
          obtain ⟨cL12_0, cL12_1, fL12_0, fL12_1, zL12⟩ := blk2 hL12
          cases hwl : wvB (2 * a) (2 * b)
          · go_wp2_with fail
            refine (alive_bel _).mono ?_; rintro e w13 ⟨rfl, hw13⟩
            have hP13 := blk_next hP12 hw13
            have hQ13 := blk_next hQ12 hw13
            have hL13 := blk_next hL12 hw13
            have hB13 := bel_next hB12 hw13
            obtain ⟨cP13_0, cP13_1, fP13_0, fP13_1, zP13⟩ := blk2 hP13
            obtain ⟨cQ13_0, cQ13_1, fQ13_0, fQ13_1, zQ13⟩ := blk2 hQ13
            obtain ⟨cL13_0, cL13_1, fL13_0, fL13_1, zL13⟩ := blk2 hL13
            go_wp2
            go_ret
            exact ⟨rfl, bel_next hB0 hB13⟩
          · have hr := R4.out hwl
            rw [ok] at hr
            have HR := Lib.hid hr
            clear hr
            go_wp2_with fail
            refine (iRL_any _ _ _ _ _).mono ?_; rintro e w13 ⟨rfl, hw13⟩
            have hP13 := blk_next hP12 hw13
            have hQ13 := blk_next hQ12 hw13
            have hL13 := blk_next hL12 hw13
            have hB13 := bel_next hB12 hw13
            obtain ⟨cP13_0, cP13_1, fP13_0, fP13_1, zP13⟩ := blk2 hP13
            obtain ⟨cQ13_0, cQ13_1, fQ13_0, fQ13_1, zQ13⟩ := blk2 hQ13
            obtain ⟨cL13_0, cL13_1, fL13_0, fL13_1, zL13⟩ := blk2 hL13
            rw [HR.out]
            go_wp2_with fail
            refine (alive_bel _).mono ?_; rintro e w14 ⟨rfl, hw14⟩
            have hP14 := blk_next hP13 hw14
            have hQ14 := blk_next hQ13 hw14
            have hL14 := blk_next hL13 hw14
            have hB14 := bel_next hB13 hw14
            obtain ⟨cP14_0, cP14_1, fP14_0, fP14_1, zP14⟩ := blk2 hP14
            obtain ⟨cQ14_0, cQ14_1, fQ14_0, fQ14_1, zQ14⟩ := blk2 hQ14
            obtain ⟨cL14_0, cL14_1, fL14_0, fL14_1, zL14⟩ := blk2 hL14
            go_wp2
            go_ret
            exact ⟨rfl, bel_next hB0 hB14⟩
        · have R2 : Hid (rlB a b g k = true) := rl_trans ok hbc
          go_wp2_with fail
          refine (iRL_any _ _ _ _ _).mono ?_; rintro e w5 ⟨rfl, hw5⟩
          obtain ⟨hC5, _, hE5⟩ := ownb2 hw5
          have hP5 := blk_next hP4 hE5
          have hQ5 := blk_next hQ4 hE5
          have hB5 := bel_next hB4 hE5
          obtain ⟨cP5_0, cP5_1, fP5_0, fP5_1, zP5⟩ := blk2 hP5
          obtain ⟨cQ5_0, cQ5_1, fQ5_0, fQ5_1, zQ5⟩ := blk2 hQ5
          obtain ⟨cC5_0, cC5_1, fC5_0, fC5_1, zC5⟩ := blk2 hC5
          rw [hbc]
          go_wp2_with fail
          refine (iRL_any _ _ _ _ _).mono ?_; rintro e w6 ⟨rfl, hw6⟩
          have hP6 := blk_next hP5 hw6
          have hQ6 := blk_next hQ5 hw6
          have hC6 := blk_next hC5 hw6
          have hB6 := bel_next hB5 hw6
          obtain ⟨cP6_0, cP6_1, fP6_0, fP6_1, zP6⟩ := blk2 hP6
          obtain ⟨cQ6_0, cQ6_1, fQ6_0, fQ6_1, zQ6⟩ := blk2 hQ6
          obtain ⟨cC6_0, cC6_1, fC6_0, fC6_1, zC6⟩ := blk2 hC6
          rw [R2.out]
          go_wp2_with fail
          obtain ⟨lP0, lP1, lP2, lP3, lP4⟩ := blk2 (blk_old hP6 (.cells #[.int .i64 (2 * a), .int .i64 (2 * b)] 24))
          obtain ⟨lQ0, lQ1, lQ2, lQ3, lQ4⟩ := blk2 (blk_old hQ6 (.cells #[.int .i64 (2 * a), .int .i64 (2 * b)] 24))
          go_wp2_with fail
          refine (iRL_any _ _ _ _ _).mono ?_; rintro e w10 ⟨rfl, hw10⟩
          obtain ⟨hL10, hE10⟩ := ownb hw10
          have hP10 := blk_next hP6 hE10
          have hQ10 := blk_next hQ6 hE10
          have hB10 := bel_next hB6 hE10
          obtain ⟨cP10_0, cP10_1, fP10_0, fP10_1, zP10⟩ := blk2 hP10
          obtain ⟨cQ10_0, cQ10_1, fQ10_0, fQ10_1, zQ10⟩ := blk2 hQ10
          obtain ⟨cL10_0, cL10_1, fL10_0, fL10_1, zL10⟩ := blk2 hL10
          rw [R1.out]
          go_wp2_with fail
          refine (iRL_any _ _ _ _ _).mono ?_; rintro e w11 ⟨rfl, hw11⟩
          have hP11 := blk_next hP10 hw11
          have hQ11 := blk_next hQ10 hw11
          have hL11 := blk_next hL10 hw11
          have hB11 := bel_next hB10 hw11
          obtain ⟨cP11_0, cP11_1, fP11_0, fP11_1, zP11⟩ := blk2 hP11
          obtain ⟨cQ11_0, cQ11_1, fQ11_0, fQ11_1, zQ11⟩ := blk2 hQ11
          obtain ⟨cL11_0, cL11_1, fL11_0, fL11_1, zL11⟩ := blk2 hL11
          rw [R3.out]
          go_wp2_with fail
          refine (iWV_any _ _ _).mono ?_; rintro e w12 ⟨rfl, hw12⟩
          have hP12 := blk_next hP11 hw12
          have hQ12 := blk_next hQ11 hw12
          have hL12 := blk_next hL11 hw12
          have hB12 := bel_next hB11 hw12
          obtain ⟨cP12_0, cP12_1, fP12_0, fP12_1, zP12⟩ := blk2 hP12
          obtain ⟨cQ12_0, cQ12_1, fQ12_0, fQ12_1, zQ12⟩ := blk2 hQ12
          obtain ⟨cL12_0, cL12_1, fL12_0, fL12_1, zL12⟩ := blk2 hL12
          cases hwl : wvB (2 * a) (2 * b)
          · go_wp2_with fail
            refine (alive_bel _).mono ?_; rintro e w13 ⟨rfl, hw13⟩
            have hP13 := blk_next hP12 hw13
            have hQ13 := blk_next hQ12 hw13
            have hL13 := blk_next hL12 hw13
            have hB13 := bel_next hB12 hw13
            obtain ⟨cP13_0, cP13_1, fP13_0, fP13_1, zP13⟩ := blk2 hP13
            obtain ⟨cQ13_0, cQ13_1, fQ13_0, fQ13_1, zQ13⟩ := blk2 hQ13
            obtain ⟨cL13_0, cL13_1, fL13_0, fL13_1, zL13⟩ := blk2 hL13
            go_wp2
            go_ret
            exact ⟨rfl, bel_next hB0 hB13⟩
          · have hr := R4.out hwl
            rw [ok] at hr
            have HR := Lib.hid hr
            clear hr
            go_wp2_with fail
            refine (iRL_any _ _ _ _ _).mono ?_; rintro e w13 ⟨rfl, hw13⟩
            have hP13 := blk_next hP12 hw13
            have hQ13 := blk_next hQ12 hw13
            have hL13 := blk_next hL12 hw13
            have hB13 := bel_next hB12 hw13
            obtain ⟨cP13_0, cP13_1, fP13_0, fP13_1, zP13⟩ := blk2 hP13
            obtain ⟨cQ13_0, cQ13_1, fQ13_0, fQ13_1, zQ13⟩ := blk2 hQ13
            obtain ⟨cL13_0, cL13_1, fL13_0, fL13_1, zL13⟩ := blk2 hL13
            rw [HR.out]
            go_wp2_with fail
            refine (alive_bel _).mono ?_; rintro e w14 ⟨rfl, hw14⟩
            have hP14 := blk_next hP13 hw14
            have hQ14 := blk_next hQ13 hw14
            have hL14 := blk_next hL13 hw14
            have hB14 := bel_next hB13 hw14
            obtain ⟨cP14_0, cP14_1, fP14_0, fP14_1, zP14⟩ := blk2 hP14
            obtain ⟨cQ14_0, cQ14_1, fQ14_0, fQ14_1, zQ14⟩ := blk2 hQ14
            obtain ⟨cL14_0, cL14_1, fL14_0, fL14_1, zL14⟩ := blk2 hL14
            go_wp2
            go_ret
            exact ⟨rfl, bel_next hB0 hB14⟩

set_option maxRecDepth 100000 in
theorem lifted (os : Os) (started : os.Started) (H : Type) (enc : TypeId × Value → H) :
    ReturnsInHanded {} Try.checked os 3 .any (Rows.fnRoundLessSpec.pre6 enc Try.prog Try.f3 Rows.fnRoundLessRow.domain false) (Rows.fnRoundLessSpec.post enc Try.prog Try.f3 false true false false) := by
  refine returnsInHanded_of_change (C := Try.checked) own started (by kernel_rfl) Try.func3
    (ChangeSpec.witness6 (enc := enc) (C := Try.checked) false ⟨#[], #[.slice none 0 0, .slice none 0 0], []⟩ 8 (by kernel_rfl) (by kernel_rfl) (by kernel_rfl) (by kernel_rfl)) ?_
  intro W base args ds gs before hval0 hW hcnd _
  have hval : ∀ (j : Nat) t v, Try.f3.params[j]? = some t → args[j]? = some v → Value.okWide Try.prog W .any base t v := hval0
  have hW' := hW
  obtain ⟨p, q, hA0, hV, rfl, hfz, hnd⟩ := hW
  have hA : DataW.TrodAll enc Try.prog W 0 (fun _ => true) true Try.f3.params.toList args.toList ds p := hA0
  rw [Try.params3] at hA hval
  obtain ⟨v0, vs0, d0, ds0, p0, q0, hargs, rfl, rfl, h0, r0⟩ := trodAll_cons hA
  obtain ⟨v1, vs1, d1, ds1, p1, q1, rfl, rfl, rfl, h1, r1⟩ := trodAll_cons r0
  obtain ⟨rfl, rfl, rfl⟩ := trodAll_nil r1
  obtain rfl : args = #[v0, v1] := by cases args; simp_all
  obtain ⟨rfl, rfl⟩ := trodVars_none hV
  have k0 := h0
  have lt0 : ∀ x ∈ p0, x.block < W.heap.size := by obtain ⟨m, hm⟩ := k0; exact DataW.trod_lt m _ _ _ hm
  have k1 := h1
  have lt1 : ∀ x ∈ p1, x.block < W.heap.size := by obtain ⟨m, hm⟩ := k1; exact DataW.trod_lt m _ _ _ hm
  obtain ⟨a0, len0, cap0, rfl⟩ := okWide_slice Try.underlying22 (hval 0 22 v0 rfl rfl)
  have w0 : CodeOk W a0 len0 cap0 := by
    obtain ⟨fuel, hf⟩ := h0
    rcases open_ints Try.underlying22 Try.underlying5 (by kernel_rfl) hf with ⟨hcs, _⟩ | ⟨x, l, c, zs, hcs, _, hl, hm, hz, _, hcell, hwz⟩
    · simp [Value.cells] at hcs
      obtain ⟨rfl, rfl, rfl⟩ := hcs
      exact code_nil W
    · simp [Value.cells] at hcs
      obtain ⟨rfl, rfl, rfl⟩ := hcs
      exact code_ok hl hm (by simp at hz; omega) hcell hwz
  obtain ⟨a1, len1, cap1, rfl⟩ := okWide_slice Try.underlying22 (hval 1 22 v1 rfl rfl)
  have w1 : CodeOk W a1 len1 cap1 := by
    obtain ⟨fuel, hf⟩ := h1
    rcases open_ints Try.underlying22 Try.underlying5 (by kernel_rfl) hf with ⟨hcs, _⟩ | ⟨x, l, c, zs, hcs, _, hl, hm, hz, _, hcell, hwz⟩
    · simp [Value.cells] at hcs
      obtain ⟨rfl, rfl, rfl⟩ := hcs
      exact code_nil W
    · simp [Value.cells] at hcs
      obtain ⟨rfl, rfl, rfl⟩ := hcs
      exact code_ok hl hm (by simp at hz; omega) hcell hwz
  clear hA0 hval0
  refine (walk W a0 len0 cap0 w0 a1 len1 cap1 w1).mono fun e W' ⟨he, bel⟩ => ?_
  subst he
  exact ⟨_, rfl, _, _, _, [], _, [], hW', trodAll_mk1 (shut_bool Try.underlying4 _), (trodAll_cons_mk (Below.trod laidOut (by kernel_rfl) (of_decide_eq_true (by kernel_rfl)) k0 bel lt0) (trodAll_cons_mk (Below.trod laidOut (by kernel_rfl) (of_decide_eq_true (by kernel_rfl)) k1 bel lt1) trodAll_mk0)), rfl, bel.frame _, fun h => by cases h⟩

theorem over : Rows.fnRoundLessRow.holds Try.pinned (OpenSpec.ofChange Rows.fnRoundLessSpec) :=
  OpenClaim.holds_of_wide 3 Try.f3 rfl rfl rfl rfl rfl rfl rfl ⟨rfl, rfl, rfl, rfl, rfl⟩ rfl rfl rfl rfl rfl (by kernel_rfl) Try.func3 (by kernel_rfl)
    (of_decide_eq_true (by kernel_rfl)) (by unfold Func.isWrapper; first | (rw [if_pos (by decide +kernel)]; kernel_rfl) | (rw [if_neg (by decide +kernel)]; exact ⟨rfl, rfl⟩))
    (fun os started H enc _ => lifted os started H enc)

/-- The statement. -/
theorem proved : Rows.FnRoundLessSaid :=
  over
#print axioms proved
end Go.Proofs.Ytbegajmdadkknab.fnRoundLess
