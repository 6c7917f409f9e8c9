/- FnBandRun: whatever the input, the law returns true, and its arguments read as they did. No conditions beyond those of the statement's row. -/
import Derived.Test.YtpmbjdfecbmgoaaBe
import Derived.Test.YtpmbjdfecbmgoaaBr
import Derived.Test.YtpmbjdfecbmgoaaBq
import Derived.Test.YtpmbjdfecbmgoaaBf
import Derived.Test.YtpmbjdfecbmgoaaLp
namespace Go.Proofs.Ytpmbjdfecbmgoaa.fnBandRun
open Go.Proofs.Ytpmbjdfecbmgoaa
open Go.ChangeShapes Go.WideShapes Go.ChangeAt Go.RowKit Go.Joins
set_option linter.unusedVariables false
set_option linter.unusedSimpArgs false
set_option linter.unnecessarySimpa false

theorem own : ownKnob Try.prog.godebug = none := by kernel_rfl
theorem laidOut : laidOutB Try.prog = true := by kernel_rfl

set_option maxRecDepth 100000 in
set_option maxHeartbeats 4000000 in
theorem walk (w : World) (a0 : Option Addr) (len0 cap0 : Nat) (w0 : CodeOk w a0 len0 cap0) :
    Calls Try.prog 6 #[.slice a0 len0 cap0] w fun e w' => e = .returned (.bool true) ∧ Below w.heap.size w w' := by
  by_cases hl : 1048576 < len0
  · have w0' := w0.2.1
    unfold maxLen at w0'
    clear w0
    go_enter Try.func6, Try.ntmps6
    go_wp2
    go_ret
    exact ⟨rfl, Below.refl _ _⟩
  · have w0' := w0.2.1
    unfold maxLen at w0'
    have hle := w0.1
    have HW := Lib.hid w0
    clear w0
    go_enter Try.func6, Try.ntmps6
    go_wp2_with fail
    refine (drBandRun_any _ _ _ _ HW.out).mono ?_; rintro e w1 ⟨s, lo, hi, xs, A, cp, rfl, ⟨l0, l1⟩, ⟨h0, h1⟩, hx6, hO0, hB0⟩
    obtain ⟨m, hm⟩ : ∃ m, xs.length = m := ⟨_, rfl⟩
    rw [hm] at hx6 ⊢
    have HM := Lib.hid hm
    clear hm
    cases hb9 : brB lo hi xs
    · have HL : Hid (brL s lo hi xs = []) := Lib.hid (brL_no hb9)
      rcases brB_false hb9 with hb | ⟨hb, hv⟩
      · have HB := Lib.hid hb
        clear hb hb9
        have hP1 : (w1.alloc (.cells #[.int .i64 lo, .int .i64 hi] 24)).heap[w1.heap.size]? = some (.cells #[.int .i64 lo, .int .i64 hi] 24) := by have := blk_new (w1) (.cells #[.int .i64 lo, .int .i64 hi] 24); simpa using this
        have hB1 := hB0.alloc hB0.size (.cells #[.int .i64 lo, .int .i64 hi] 24)
        have hO1 := hO0.next (bel1 _ (.cells #[.int .i64 lo, .int .i64 hi] 24))
        have zBP := hB0.size
        obtain ⟨cP1_0, cP1_1, fP1_0, fP1_1, zP1⟩ := blk2 hP1
        go_wp2_with fail
        refine (iBr_is A cp xs _ _ HM.out hO1.row (by omega) HL.out).mono ?_; rintro e' w2 ⟨V, cv, rfl, hV2, hw2⟩
        have hP2 := blk_next hP1 hw2
        have hO2 := hO1.next hw2
        have hB2 := bel_next hB1 hw2
        have hV2 := hV2.mono (base' := w.heap.size) hB1.size
        obtain ⟨cP2_0, cP2_1, fP2_0, fP2_1, zP2⟩ := blk2 hP2
        go_wp2_with fail
        refine (sBr_is A cp xs _ _ HM.out hO2.row (by omega) HL.out).mono ?_; rintro e' w3 ⟨U, cu, rfl, hU3, hw3⟩
        have hP3 := blk_next hP2 hw3
        have hO3 := hO2.next hw3
        have hV3 := hV2.next hw3
        have hB3 := bel_next hB2 hw3
        have hU3 := hU3.mono (base' := w.heap.size) hB2.size
        go_wp2_with fail
        refine (sameBools_is V U cv cu [] rfl hV3.row hU3.row (by simp)).mono ?_; rintro e' w4 ⟨rfl, hw4⟩
        have hP4 := blk_next hP3 hw4
        have hO4 := hO3.next hw4
        have hV4 := hV3.next hw4
        have hU4 := hU3.next hw4
        have hB4 := bel_next hB3 hw4
        obtain ⟨cP4_0, cP4_1, fP4_0, fP4_1, zP4⟩ := blk2 hP4
        go_wp2_with fail
        refine (sBd_is _ HB.out).mono ?_; rintro e' w5 ⟨rfl, hw5⟩
        have hP5 := blk_next hP4 hw5
        have hO5 := hO4.next hw5
        have hV5 := hV4.next hw5
        have hU5 := hU4.next hw5
        have hB5 := bel_next hB4 hw5
        go_wp2_with fail
        refine (alive_bel _).mono ?_; rintro e' w6 ⟨rfl, hw6⟩
        have hP6 := blk_next hP5 hw6
        have hO6 := hO5.next hw6
        have hV6 := hV5.next hw6
        have hU6 := hU5.next hw6
        have hB6 := bel_next hB5 hw6
        go_wp2
        go_ret
        exact ⟨rfl, by first | exact hB6 | exact hB6.drew⟩
      · have HB := Lib.hid hb
        have HV := Lib.hid hv
        clear hb hv hb9
        have hP1 : (w1.alloc (.cells #[.int .i64 lo, .int .i64 hi] 24)).heap[w1.heap.size]? = some (.cells #[.int .i64 lo, .int .i64 hi] 24) := by have := blk_new (w1) (.cells #[.int .i64 lo, .int .i64 hi] 24); simpa using this
        have hB1 := hB0.alloc hB0.size (.cells #[.int .i64 lo, .int .i64 hi] 24)
        have hO1 := hO0.next (bel1 _ (.cells #[.int .i64 lo, .int .i64 hi] 24))
        have zBP := hB0.size
        obtain ⟨cP1_0, cP1_1, fP1_0, fP1_1, zP1⟩ := blk2 hP1
        go_wp2_with fail
        refine (iBr_is A cp xs _ _ HM.out hO1.row (by omega) HL.out).mono ?_; rintro e' w2 ⟨V, cv, rfl, hV2, hw2⟩
        have hP2 := blk_next hP1 hw2
        have hO2 := hO1.next hw2
        have hB2 := bel_next hB1 hw2
        have hV2 := hV2.mono (base' := w.heap.size) hB1.size
        obtain ⟨cP2_0, cP2_1, fP2_0, fP2_1, zP2⟩ := blk2 hP2
        go_wp2_with fail
        refine (sBr_is A cp xs _ _ HM.out hO2.row (by omega) HL.out).mono ?_; rintro e' w3 ⟨U, cu, rfl, hU3, hw3⟩
        have hP3 := blk_next hP2 hw3
        have hO3 := hO2.next hw3
        have hV3 := hV2.next hw3
        have hB3 := bel_next hB2 hw3
        have hU3 := hU3.mono (base' := w.heap.size) hB2.size
        go_wp2_with fail
        refine (sameBools_is V U cv cu [] rfl hV3.row hU3.row (by simp)).mono ?_; rintro e' w4 ⟨rfl, hw4⟩
        have hP4 := blk_next hP3 hw4
        have hO4 := hO3.next hw4
        have hV4 := hV3.next hw4
        have hU4 := hU3.next hw4
        have hB4 := bel_next hB3 hw4
        obtain ⟨cP4_0, cP4_1, fP4_0, fP4_1, zP4⟩ := blk2 hP4
        go_wp2_with fail
        refine (sBd_is _ HB.out).mono ?_; rintro e' w5 ⟨rfl, hw5⟩
        have hP5 := blk_next hP4 hw5
        have hO5 := hO4.next hw5
        have hV5 := hV4.next hw5
        have hU5 := hU4.next hw5
        have hB5 := bel_next hB4 hw5
        go_wp2_with fail
        refine (sLt_is A cp xs _ HM.out hO5.row (by omega) HV.out).mono ?_; rintro e' w6 ⟨rfl, hw6⟩
        have hP6 := blk_next hP5 hw6
        have hO6 := hO5.next hw6
        have hV6 := hV5.next hw6
        have hU6 := hU5.next hw6
        have hB6 := bel_next hB5 hw6
        go_wp2_with fail
        refine (alive_bel _).mono ?_; rintro e' w7 ⟨rfl, hw7⟩
        have hP7 := blk_next hP6 hw7
        have hO7 := hO6.next hw7
        have hV7 := hV6.next hw7
        have hU7 := hU6.next hw7
        have hB7 := bel_next hB6 hw7
        go_wp2
        go_ret
        exact ⟨rfl, by first | exact hB7 | exact hB7.drew⟩
    · obtain ⟨hb, hv⟩ := brB_iff.1 hb9
      have hbi := bdB_iff.1 hb
      obtain ⟨hb0, hb1, hb2⟩ := hbi
      have hm60 : m ≤ 60 := by have := (ltB_iff.1 hv).1; rw [HM.out] at this; exact this
      obtain ⟨l, hl⟩ : ∃ l, brR lo hi s xs = l := ⟨_, rfl⟩
      have HL : Hid (brL s lo hi xs = l) := Lib.hid ((brL_yes hb9).trans hl)
      have HQ : Hid (l.length = m) := Lib.hid (by rw [← hl, brR_len, HM.out])
      obtain ⟨n, hn⟩ : ∃ n, chR s l = n := ⟨_, rfl⟩
      have HC := Lib.hid hn
      have HX : Hid (bcI s lo hi xs = n) := Lib.hid (by rw [bcI_yes hb9, ← bcR_ch, hl, hn])
      have hnb := chR_nn l s
      rw [HQ.out, hn] at hnb
      obtain ⟨n0, n1⟩ := hnb
      have hbw := brB_iff.2 (And.intro (bdB_wide hb) hv)
      obtain ⟨l2, hl2⟩ : ∃ l2, brR (max (lo - 1) 0) (min (hi + 1) 100) s xs = l2 := ⟨_, rfl⟩
      have HL2 : Hid (brL s (max (lo - 1) 0) (min (hi + 1) 100) xs = l2) := Lib.hid ((brL_yes hbw).trans hl2)
      have HQ2 : Hid (l2.length = m) := Lib.hid (by rw [← hl2, brR_len, HM.out])
      obtain ⟨n2, hn2⟩ : ∃ n, chR s l2 = n := ⟨_, rfl⟩
      have HC2 := Lib.hid hn2
      have hle : n2 ≤ n := by rw [← hn2, ← hn, ← hl, ← hl2, bcR_ch, bcR_ch]; exact bcR_wider hb xs s
      have HB := Lib.hid hb
      have HV := Lib.hid hv
      clear hb hv hb9 hl hn hbw hl2 hn2
      by_cases ha : lo - 1 < 0
      · rw [show max (lo - 1) 0 = 0 by omega] at HL2
        by_cases hc : 100 < hi + 1
        · rw [show min (hi + 1) 100 = 100 by omega] at HL2
          have hP1 : (w1.alloc (.cells #[.int .i64 lo, .int .i64 hi] 24)).heap[w1.heap.size]? = some (.cells #[.int .i64 lo, .int .i64 hi] 24) := by have := blk_new (w1) (.cells #[.int .i64 lo, .int .i64 hi] 24); simpa using this
          have hB1 := hB0.alloc hB0.size (.cells #[.int .i64 lo, .int .i64 hi] 24)
          have hO1 := hO0.next (bel1 _ (.cells #[.int .i64 lo, .int .i64 hi] 24))
          have zBP := hB0.size
          obtain ⟨cP1_0, cP1_1, fP1_0, fP1_1, zP1⟩ := blk2 hP1
          go_wp2_with fail
          refine (iBr_is A cp xs _ _ HM.out hO1.row (by omega) HL.out).mono ?_; rintro e' w2 ⟨V, cv, rfl, hV2, hw2⟩
          have hP2 := blk_next hP1 hw2
          have hO2 := hO1.next hw2
          have hB2 := bel_next hB1 hw2
          have hV2 := hV2.mono (base' := w.heap.size) hB1.size
          rw [HQ.out]
          obtain ⟨cP2_0, cP2_1, fP2_0, fP2_1, zP2⟩ := blk2 hP2
          go_wp2_with fail
          refine (sBr_is A cp xs _ _ HM.out hO2.row (by omega) HL.out).mono ?_; rintro e' w3 ⟨U, cu, rfl, hU3, hw3⟩
          have hP3 := blk_next hP2 hw3
          have hO3 := hO2.next hw3
          have hV3 := hV2.next hw3
          have hB3 := bel_next hB2 hw3
          have hU3 := hU3.mono (base' := w.heap.size) hB2.size
          rw [HQ.out]
          go_wp2_with fail
          refine (sameBools_is V U cv cu l HQ.out hV3.row hU3.row (by omega)).mono ?_; rintro e' w4 ⟨rfl, hw4⟩
          have hP4 := blk_next hP3 hw4
          have hO4 := hO3.next hw4
          have hV4 := hV3.next hw4
          have hU4 := hU3.next hw4
          have hB4 := bel_next hB3 hw4
          obtain ⟨cP4_0, cP4_1, fP4_0, fP4_1, zP4⟩ := blk2 hP4
          go_wp2_with fail
          refine (sBd_is _ HB.out).mono ?_; rintro e' w5 ⟨rfl, hw5⟩
          have hP5 := blk_next hP4 hw5
          have hO5 := hO4.next hw5
          have hV5 := hV4.next hw5
          have hB5 := bel_next hB4 hw5
          go_wp2_with fail
          refine (sLt_is A cp xs _ HM.out hO5.row (by omega) HV.out).mono ?_; rintro e' w6 ⟨rfl, hw6⟩
          have hP6 := blk_next hP5 hw6
          have hO6 := hO5.next hw6
          have hV6 := hV5.next hw6
          have hB6 := bel_next hB5 hw6
          go_wp2_with fail
          refine (iCh_is V cv l s _ HQ.out hV6.row (by omega) HC.out).mono ?_; rintro e' w7 ⟨rfl, hw7⟩
          have hP7 := blk_next hP6 hw7
          have hO7 := hO6.next hw7
          have hV7 := hV6.next hw7
          have hB7 := bel_next hB6 hw7
          obtain ⟨cP7_0, cP7_1, fP7_0, fP7_1, zP7⟩ := blk2 hP7
          have zPN := blk_lt hP7
          have hN8 : (w7.alloc (.cells #[.int .i64 0, .int .i64 100] 24)).heap[w7.heap.size]? = some (.cells #[.int .i64 0, .int .i64 100] 24) := by have := blk_new (w7) (.cells #[.int .i64 0, .int .i64 100] 24); simpa using this
          have hP8 := blk_old hP7 (.cells #[.int .i64 0, .int .i64 100] 24)
          have hB8 := hB7.alloc hB7.size (.cells #[.int .i64 0, .int .i64 100] 24)
          have hO8 := hO7.next (bel1 _ (.cells #[.int .i64 0, .int .i64 100] 24))
          have hV8 := hV7.next (bel1 _ (.cells #[.int .i64 0, .int .i64 100] 24))
          have zBN := hB7.size
          obtain ⟨cP8_0, cP8_1, fP8_0, fP8_1, zP8⟩ := blk2 hP8
          go_wp2_with fail
          refine (iBc_is A cp xs _ _ HM.out hO8.row (by omega) HX.out).mono ?_; rintro e' w9 ⟨rfl, hw9⟩
          have hP9 := blk_next hP8 hw9
          have hN9 := blk_next hN8 hw9
          have hO9 := hO8.next hw9
          have hV9 := hV8.next hw9
          have hB9 := bel_next hB8 hw9
          obtain ⟨cP9_0, cP9_1, fP9_0, fP9_1, zP9⟩ := blk2 hP9
          obtain ⟨cN9_0, cN9_1, fN9_0, fN9_1, zN9⟩ := blk2 hN9
          go_wp2_with fail
          refine (iBr_is A cp xs _ _ HM.out hO9.row (by omega) HL2.out).mono ?_; rintro e' w10 ⟨Y, cy, rfl, hY10, hw10⟩
          have hP10 := blk_next hP9 hw10
          have hN10 := blk_next hN9 hw10
          have hO10 := hO9.next hw10
          have hV10 := hV9.next hw10
          have hB10 := bel_next hB9 hw10
          have hY10 := hY10.mono (base' := w.heap.size) hB9.size
          rw [HQ2.out]
          go_wp2_with fail
          refine (iCh_is Y cy l2 s _ HQ2.out hY10.row (by omega) HC2.out).mono ?_; rintro e' w11 ⟨rfl, hw11⟩
          have hP11 := blk_next hP10 hw11
          have hN11 := blk_next hN10 hw11
          have hO11 := hO10.next hw11
          have hV11 := hV10.next hw11
          have hY11 := hY10.next hw11
          have hB11 := bel_next hB10 hw11
          go_wp2
          go_ret
          exact ⟨rfl, by first | exact hB11 | exact hB11.drew⟩
        · rw [show min (hi + 1) 100 = (hi + 1) by omega] at HL2
          have hP1 : (w1.alloc (.cells #[.int .i64 lo, .int .i64 hi] 24)).heap[w1.heap.size]? = some (.cells #[.int .i64 lo, .int .i64 hi] 24) := by have := blk_new (w1) (.cells #[.int .i64 lo, .int .i64 hi] 24); simpa using this
          have hB1 := hB0.alloc hB0.size (.cells #[.int .i64 lo, .int .i64 hi] 24)
          have hO1 := hO0.next (bel1 _ (.cells #[.int .i64 lo, .int .i64 hi] 24))
          have zBP := hB0.size
          obtain ⟨cP1_0, cP1_1, fP1_0, fP1_1, zP1⟩ := blk2 hP1
          go_wp2_with fail
          refine (iBr_is A cp xs _ _ HM.out hO1.row (by omega) HL.out).mono ?_; rintro e' w2 ⟨V, cv, rfl, hV2, hw2⟩
          have hP2 := blk_next hP1 hw2
          have hO2 := hO1.next hw2
          have hB2 := bel_next hB1 hw2
          have hV2 := hV2.mono (base' := w.heap.size) hB1.size
          rw [HQ.out]
          obtain ⟨cP2_0, cP2_1, fP2_0, fP2_1, zP2⟩ := blk2 hP2
          go_wp2_with fail
          refine (sBr_is A cp xs _ _ HM.out hO2.row (by omega) HL.out).mono ?_; rintro e' w3 ⟨U, cu, rfl, hU3, hw3⟩
          have hP3 := blk_next hP2 hw3
          have hO3 := hO2.next hw3
          have hV3 := hV2.next hw3
          have hB3 := bel_next hB2 hw3
          have hU3 := hU3.mono (base' := w.heap.size) hB2.size
          rw [HQ.out]
          go_wp2_with fail
          refine (sameBools_is V U cv cu l HQ.out hV3.row hU3.row (by omega)).mono ?_; rintro e' w4 ⟨rfl, hw4⟩
          have hP4 := blk_next hP3 hw4
          have hO4 := hO3.next hw4
          have hV4 := hV3.next hw4
          have hU4 := hU3.next hw4
          have hB4 := bel_next hB3 hw4
          obtain ⟨cP4_0, cP4_1, fP4_0, fP4_1, zP4⟩ := blk2 hP4
          go_wp2_with fail
          refine (sBd_is _ HB.out).mono ?_; rintro e' w5 ⟨rfl, hw5⟩
          have hP5 := blk_next hP4 hw5
          have hO5 := hO4.next hw5
          have hV5 := hV4.next hw5
          have hB5 := bel_next hB4 hw5
          go_wp2_with fail
          refine (sLt_is A cp xs _ HM.out hO5.row (by omega) HV.out).mono ?_; rintro e' w6 ⟨rfl, hw6⟩
          have hP6 := blk_next hP5 hw6
          have hO6 := hO5.next hw6
          have hV6 := hV5.next hw6
          have hB6 := bel_next hB5 hw6
          go_wp2_with fail
          refine (iCh_is V cv l s _ HQ.out hV6.row (by omega) HC.out).mono ?_; rintro e' w7 ⟨rfl, hw7⟩
          have hP7 := blk_next hP6 hw7
          have hO7 := hO6.next hw7
          have hV7 := hV6.next hw7
          have hB7 := bel_next hB6 hw7
          obtain ⟨cP7_0, cP7_1, fP7_0, fP7_1, zP7⟩ := blk2 hP7
          have zPN := blk_lt hP7
          have hN8 : (w7.alloc (.cells #[.int .i64 0, .int .i64 (hi + 1)] 24)).heap[w7.heap.size]? = some (.cells #[.int .i64 0, .int .i64 (hi + 1)] 24) := by have := blk_new (w7) (.cells #[.int .i64 0, .int .i64 (hi + 1)] 24); simpa using this
          have hP8 := blk_old hP7 (.cells #[.int .i64 0, .int .i64 (hi + 1)] 24)
          have hB8 := hB7.alloc hB7.size (.cells #[.int .i64 0, .int .i64 (hi + 1)] 24)
          have hO8 := hO7.next (bel1 _ (.cells #[.int .i64 0, .int .i64 (hi + 1)] 24))
          have hV8 := hV7.next (bel1 _ (.cells #[.int .i64 0, .int .i64 (hi + 1)] 24))
          have zBN := hB7.size
          obtain ⟨cP8_0, cP8_1, fP8_0, fP8_1, zP8⟩ := blk2 hP8
          go_wp2_with fail
          refine (iBc_is A cp xs _ _ HM.out hO8.row (by omega) HX.out).mono ?_; rintro e' w9 ⟨rfl, hw9⟩
          have hP9 := blk_next hP8 hw9
          have hN9 := blk_next hN8 hw9
          have hO9 := hO8.next hw9
          have hV9 := hV8.next hw9
          have hB9 := bel_next hB8 hw9
          obtain ⟨cP9_0, cP9_1, fP9_0, fP9_1, zP9⟩ := blk2 hP9
          obtain ⟨cN9_0, cN9_1, fN9_0, fN9_1, zN9⟩ := blk2 hN9
          go_wp2_with fail
          refine (iBr_is A cp xs _ _ HM.out hO9.row (by omega) HL2.out).mono ?_; rintro e' w10 ⟨Y, cy, rfl, hY10, hw10⟩
          have hP10 := blk_next hP9 hw10
          have hN10 := blk_next hN9 hw10
          have hO10 := hO9.next hw10
          have hV10 := hV9.next hw10
          have hB10 := bel_next hB9 hw10
          have hY10 := hY10.mono (base' := w.heap.size) hB9.size
          rw [HQ2.out]
          go_wp2_with fail
          refine (iCh_is Y cy l2 s _ HQ2.out hY10.row (by omega) HC2.out).mono ?_; rintro e' w11 ⟨rfl, hw11⟩
          have hP11 := blk_next hP10 hw11
          have hN11 := blk_next hN10 hw11
          have hO11 := hO10.next hw11
          have hV11 := hV10.next hw11
          have hY11 := hY10.next hw11
          have hB11 := bel_next hB10 hw11
          go_wp2
          go_ret
          exact ⟨rfl, by first | exact hB11 | exact hB11.drew⟩
      · rw [show max (lo - 1) 0 = (lo - 1) by omega] at HL2
        by_cases hc : 100 < hi + 1
        · rw [show min (hi + 1) 100 = 100 by omega] at HL2
          have hP1 : (w1.alloc (.cells #[.int .i64 lo, .int .i64 hi] 24)).heap[w1.heap.size]? = some (.cells #[.int .i64 lo, .int .i64 hi] 24) := by have := blk_new (w1) (.cells #[.int .i64 lo, .int .i64 hi] 24); simpa using this
          have hB1 := hB0.alloc hB0.size (.cells #[.int .i64 lo, .int .i64 hi] 24)
          have hO1 := hO0.next (bel1 _ (.cells #[.int .i64 lo, .int .i64 hi] 24))
          have zBP := hB0.size
          obtain ⟨cP1_0, cP1_1, fP1_0, fP1_1, zP1⟩ := blk2 hP1
          go_wp2_with fail
          refine (iBr_is A cp xs _ _ HM.out hO1.row (by omega) HL.out).mono ?_; rintro e' w2 ⟨V, cv, rfl, hV2, hw2⟩
          have hP2 := blk_next hP1 hw2
          have hO2 := hO1.next hw2
          have hB2 := bel_next hB1 hw2
          have hV2 := hV2.mono (base' := w.heap.size) hB1.size
          rw [HQ.out]
          obtain ⟨cP2_0, cP2_1, fP2_0, fP2_1, zP2⟩ := blk2 hP2
          go_wp2_with fail
          refine (sBr_is A cp xs _ _ HM.out hO2.row (by omega) HL.out).mono ?_; rintro e' w3 ⟨U, cu, rfl, hU3, hw3⟩
          have hP3 := blk_next hP2 hw3
          have hO3 := hO2.next hw3
          have hV3 := hV2.next hw3
          have hB3 := bel_next hB2 hw3
          have hU3 := hU3.mono (base' := w.heap.size) hB2.size
          rw [HQ.out]
          go_wp2_with fail
          refine (sameBools_is V U cv cu l HQ.out hV3.row hU3.row (by omega)).mono ?_; rintro e' w4 ⟨rfl, hw4⟩
          have hP4 := blk_next hP3 hw4
          have hO4 := hO3.next hw4
          have hV4 := hV3.next hw4
          have hU4 := hU3.next hw4
          have hB4 := bel_next hB3 hw4
          obtain ⟨cP4_0, cP4_1, fP4_0, fP4_1, zP4⟩ := blk2 hP4
          go_wp2_with fail
          refine (sBd_is _ HB.out).mono ?_; rintro e' w5 ⟨rfl, hw5⟩
          have hP5 := blk_next hP4 hw5
          have hO5 := hO4.next hw5
          have hV5 := hV4.next hw5
          have hB5 := bel_next hB4 hw5
          go_wp2_with fail
          refine (sLt_is A cp xs _ HM.out hO5.row (by omega) HV.out).mono ?_; rintro e' w6 ⟨rfl, hw6⟩
          have hP6 := blk_next hP5 hw6
          have hO6 := hO5.next hw6
          have hV6 := hV5.next hw6
          have hB6 := bel_next hB5 hw6
          go_wp2_with fail
          refine (iCh_is V cv l s _ HQ.out hV6.row (by omega) HC.out).mono ?_; rintro e' w7 ⟨rfl, hw7⟩
          have hP7 := blk_next hP6 hw7
          have hO7 := hO6.next hw7
          have hV7 := hV6.next hw7
          have hB7 := bel_next hB6 hw7
          obtain ⟨cP7_0, cP7_1, fP7_0, fP7_1, zP7⟩ := blk2 hP7
          have zPN := blk_lt hP7
          have hN8 : (w7.alloc (.cells #[.int .i64 (lo - 1), .int .i64 100] 24)).heap[w7.heap.size]? = some (.cells #[.int .i64 (lo - 1), .int .i64 100] 24) := by have := blk_new (w7) (.cells #[.int .i64 (lo - 1), .int .i64 100] 24); simpa using this
          have hP8 := blk_old hP7 (.cells #[.int .i64 (lo - 1), .int .i64 100] 24)
          have hB8 := hB7.alloc hB7.size (.cells #[.int .i64 (lo - 1), .int .i64 100] 24)
          have hO8 := hO7.next (bel1 _ (.cells #[.int .i64 (lo - 1), .int .i64 100] 24))
          have hV8 := hV7.next (bel1 _ (.cells #[.int .i64 (lo - 1), .int .i64 100] 24))
          have zBN := hB7.size
          obtain ⟨cP8_0, cP8_1, fP8_0, fP8_1, zP8⟩ := blk2 hP8
          go_wp2_with fail
          refine (iBc_is A cp xs _ _ HM.out hO8.row (by omega) HX.out).mono ?_; rintro e' w9 ⟨rfl, hw9⟩
          have hP9 := blk_next hP8 hw9
          have hN9 := blk_next hN8 hw9
          have hO9 := hO8.next hw9
          have hV9 := hV8.next hw9
          have hB9 := bel_next hB8 hw9
          obtain ⟨cP9_0, cP9_1, fP9_0, fP9_1, zP9⟩ := blk2 hP9
          obtain ⟨cN9_0, cN9_1, fN9_0, fN9_1, zN9⟩ := blk2 hN9
          go_wp2_with fail
          refine (iBr_is A cp xs _ _ HM.out hO9.row (by omega) HL2.out).mono ?_; rintro e' w10 ⟨Y, cy, rfl, hY10, hw10⟩
          have hP10 := blk_next hP9 hw10
          have hN10 := blk_next hN9 hw10
          have hO10 := hO9.next hw10
          have hV10 := hV9.next hw10
          have hB10 := bel_next hB9 hw10
          have hY10 := hY10.mono (base' := w.heap.size) hB9.size
          rw [HQ2.out]
          go_wp2_with fail
          refine (iCh_is Y cy l2 s _ HQ2.out hY10.row (by omega) HC2.out).mono ?_; rintro e' w11 ⟨rfl, hw11⟩
          have hP11 := blk_next hP10 hw11
          have hN11 := blk_next hN10 hw11
          have hO11 := hO10.next hw11
          have hV11 := hV10.next hw11
          have hY11 := hY10.next hw11
          have hB11 := bel_next hB10 hw11
          go_wp2
          go_ret
          exact ⟨rfl, by first | exact hB11 | exact hB11.drew⟩
        · rw [show min (hi + 1) 100 = (hi + 1) by omega] at HL2
          have hP1 : (w1.alloc (.cells #[.int .i64 lo, .int .i64 hi] 24)).heap[w1.heap.size]? = some (.cells #[.int .i64 lo, .int .i64 hi] 24) := by have := blk_new (w1) (.cells #[.int .i64 lo, .int .i64 hi] 24); simpa using this
          have hB1 := hB0.alloc hB0.size (.cells #[.int .i64 lo, .int .i64 hi] 24)
          have hO1 := hO0.next (bel1 _ (.cells #[.int .i64 lo, .int .i64 hi] 24))
          have zBP := hB0.size
          obtain ⟨cP1_0, cP1_1, fP1_0, fP1_1, zP1⟩ := blk2 hP1
          go_wp2_with fail
          refine (iBr_is A cp xs _ _ HM.out hO1.row (by omega) HL.out).mono ?_; rintro e' w2 ⟨V, cv, rfl, hV2, hw2⟩
          have hP2 := blk_next hP1 hw2
          have hO2 := hO1.next hw2
          have hB2 := bel_next hB1 hw2
          have hV2 := hV2.mono (base' := w.heap.size) hB1.size
          rw [HQ.out]
          obtain ⟨cP2_0, cP2_1, fP2_0, fP2_1, zP2⟩ := blk2 hP2
          go_wp2_with fail
          refine (sBr_is A cp xs _ _ HM.out hO2.row (by omega) HL.out).mono ?_; rintro e' w3 ⟨U, cu, rfl, hU3, hw3⟩
          have hP3 := blk_next hP2 hw3
          have hO3 := hO2.next hw3
          have hV3 := hV2.next hw3
          have hB3 := bel_next hB2 hw3
          have hU3 := hU3.mono (base' := w.heap.size) hB2.size
          rw [HQ.out]
          go_wp2_with fail
          refine (sameBools_is V U cv cu l HQ.out hV3.row hU3.row (by omega)).mono ?_; rintro e' w4 ⟨rfl, hw4⟩
          have hP4 := blk_next hP3 hw4
          have hO4 := hO3.next hw4
          have hV4 := hV3.next hw4
          have hU4 := hU3.next hw4
          have hB4 := bel_next hB3 hw4
          obtain ⟨cP4_0, cP4_1, fP4_0, fP4_1, zP4⟩ := blk2 hP4
          go_wp2_with fail
          refine (sBd_is _ HB.out).mono ?_; rintro e' w5 ⟨rfl, hw5⟩
          have hP5 := blk_next hP4 hw5
          have hO5 := hO4.next hw5
          have hV5 := hV4.next hw5
          have hB5 := bel_next hB4 hw5
          go_wp2_with fail
          refine (sLt_is A cp xs _ HM.out hO5.row (by omega) HV.out).mono ?_; rintro e' w6 ⟨rfl, hw6⟩
          have hP6 := blk_next hP5 hw6
          have hO6 := hO5.next hw6
          have hV6 := hV5.next hw6
          have hB6 := bel_next hB5 hw6
          go_wp2_with fail
          refine (iCh_is V cv l s _ HQ.out hV6.row (by omega) HC.out).mono ?_; rintro e' w7 ⟨rfl, hw7⟩
          have hP7 := blk_next hP6 hw7
          have hO7 := hO6.next hw7
          have hV7 := hV6.next hw7
          have hB7 := bel_next hB6 hw7
          obtain ⟨cP7_0, cP7_1, fP7_0, fP7_1, zP7⟩ := blk2 hP7
          have zPN := blk_lt hP7
          have hN8 : (w7.alloc (.cells #[.int .i64 (lo - 1), .int .i64 (hi + 1)] 24)).heap[w7.heap.size]? = some (.cells #[.int .i64 (lo - 1), .int .i64 (hi + 1)] 24) := by have := blk_new (w7) (.cells #[.int .i64 (lo - 1), .int .i64 (hi + 1)] 24); simpa using this
          have hP8 := blk_old hP7 (.cells #[.int .i64 (lo - 1), .int .i64 (hi + 1)] 24)
          have hB8 := hB7.alloc hB7.size (.cells #[.int .i64 (lo - 1), .int .i64 (hi + 1)] 24)
          have hO8 := hO7.next (bel1 _ (.cells #[.int .i64 (lo - 1), .int .i64 (hi + 1)] 24))
          have hV8 := hV7.next (bel1 _ (.cells #[.int .i64 (lo - 1), .int .i64 (hi + 1)] 24))
          have zBN := hB7.size
          obtain ⟨cP8_0, cP8_1, fP8_0, fP8_1, zP8⟩ := blk2 hP8
          go_wp2_with fail
          refine (iBc_is A cp xs _ _ HM.out hO8.row (by omega) HX.out).mono ?_; rintro e' w9 ⟨rfl, hw9⟩
          have hP9 := blk_next hP8 hw9
          have hN9 := blk_next hN8 hw9
          have hO9 := hO8.next hw9
          have hV9 := hV8.next hw9
          have hB9 := bel_next hB8 hw9
          obtain ⟨cP9_0, cP9_1, fP9_0, fP9_1, zP9⟩ := blk2 hP9
          obtain ⟨cN9_0, cN9_1, fN9_0, fN9_1, zN9⟩ := blk2 hN9
          go_wp2_with fail
          refine (iBr_is A cp xs _ _ HM.out hO9.row (by omega) HL2.out).mono ?_; rintro e' w10 ⟨Y, cy, rfl, hY10, hw10⟩
          have hP10 := blk_next hP9 hw10
          have hN10 := blk_next hN9 hw10
          have hO10 := hO9.next hw10
          have hV10 := hV9.next hw10
          have hB10 := bel_next hB9 hw10
          have hY10 := hY10.mono (base' := w.heap.size) hB9.size
          rw [HQ2.out]
          go_wp2_with fail
          refine (iCh_is Y cy l2 s _ HQ2.out hY10.row (by omega) HC2.out).mono ?_; rintro e' w11 ⟨rfl, hw11⟩
          have hP11 := blk_next hP10 hw11
          have hN11 := blk_next hN10 hw11
          have hO11 := hO10.next hw11
          have hV11 := hV10.next hw11
          have hY11 := hY10.next hw11
          have hB11 := bel_next hB10 hw11
          go_wp2
          go_ret
          exact ⟨rfl, by first | exact hB11 | exact hB11.drew⟩

set_option maxRecDepth 100000 in
theorem lifted (os : Os) (started : os.Started) (H : Type) (enc : TypeId × Value → H) :
    ReturnsInHanded {} Try.checked os 6 .any (Rows.fnBandRunSpec.pre6 enc Try.prog Try.f6 Rows.fnBandRunRow.domain false) (Rows.fnBandRunSpec.post enc Try.prog Try.f6 false true false false) := by
  refine returnsInHanded_of_change (C := Try.checked) own started (by kernel_rfl) Try.func6
    (ChangeSpec.witness6 (enc := enc) (C := Try.checked) false ⟨#[], #[.slice none 0 0], []⟩ 8 (by kernel_rfl) (by kernel_rfl) (by kernel_rfl) (by kernel_rfl)) ?_
  intro W base args ds gs before hval0 hW hcnd _
  have hval : ∀ (j : Nat) t v, Try.f6.params[j]? = some t → args[j]? = some v → Value.okWide Try.prog W .any base t v := hval0
  have hW' := hW
  obtain ⟨p, q, hA0, hV, rfl, hfz, hnd⟩ := hW
  have hA : DataW.TrodAll enc Try.prog W 0 (fun _ => true) true Try.f6.params.toList args.toList ds p := hA0
  rw [Try.params6] at hA hval
  obtain ⟨v0, vs0, d0, ds0, p0, q0, hargs, rfl, rfl, h0, r0⟩ := trodAll_cons hA
  obtain ⟨rfl, rfl, rfl⟩ := trodAll_nil r0
  obtain rfl : args = #[v0] := by cases args; simp_all
  obtain ⟨rfl, rfl⟩ := trodVars_none hV
  have k0 := h0
  have lt0 : ∀ x ∈ p0, x.block < W.heap.size := by obtain ⟨m, hm⟩ := k0; exact DataW.trod_lt m _ _ _ hm
  obtain ⟨a0, len0, cap0, rfl⟩ := okWide_slice Try.underlying22 (hval 0 22 v0 rfl rfl)
  have w0 : CodeOk W a0 len0 cap0 := by
    obtain ⟨fuel, hf⟩ := h0
    rcases open_ints Try.underlying22 Try.underlying5 (by kernel_rfl) hf with ⟨hcs, _⟩ | ⟨x, l, c, zs, hcs, _, hl, hm, hz, _, hcell, hwz⟩
    · simp [Value.cells] at hcs
      obtain ⟨rfl, rfl, rfl⟩ := hcs
      exact code_nil W
    · simp [Value.cells] at hcs
      obtain ⟨rfl, rfl, rfl⟩ := hcs
      exact code_ok hl hm (by simp at hz; omega) hcell hwz
  clear hA0 hval0
  refine (walk W a0 len0 cap0 w0).mono fun e W' ⟨he, bel⟩ => ?_
  subst he
  exact ⟨_, rfl, _, _, _, [], _, [], hW', trodAll_mk1 (shut_bool Try.underlying4 _), (trodAll_cons_mk (Below.trod laidOut (by kernel_rfl) (of_decide_eq_true (by kernel_rfl)) k0 bel lt0) trodAll_mk0), rfl, bel.frame _, fun h => by cases h⟩

theorem over : Rows.fnBandRunRow.holds Try.pinned (OpenSpec.ofChange Rows.fnBandRunSpec) :=
  OpenClaim.holds_of_wide 6 Try.f6 rfl rfl rfl rfl rfl rfl rfl ⟨rfl, rfl, rfl, rfl, rfl⟩ rfl rfl rfl rfl rfl (by kernel_rfl) Try.func6 (by kernel_rfl)
    (of_decide_eq_true (by kernel_rfl)) (by unfold Func.isWrapper; first | (rw [if_pos (by decide +kernel)]; kernel_rfl) | (rw [if_neg (by decide +kernel)]; exact ⟨rfl, rfl⟩))
    (fun os started H enc _ => lifted os started H enc)

/-- The statement. -/
theorem proved : Rows.FnBandRunSaid :=
  over
#print axioms proved
end Go.Proofs.Ytpmbjdfecbmgoaa.fnBandRun
