/- FnPauseRun: whatever the input, the law returns true, and its arguments read as they did. No conditions beyond those of the statement's row. -/
import Derived.Test.YtpmbjdfecbmgoaaBe
import Derived.Test.YtpmbjdfecbmgoaaBu
import Derived.Test.YtpmbjdfecbmgoaaBq
import Derived.Test.YtpmbjdfecbmgoaaBf
import Derived.Test.YtpmbjdfecbmgoaaLp
namespace Go.Proofs.Ytpmbjdfecbmgoaa.fnPauseRun
open Go.Proofs.Ytpmbjdfecbmgoaa
open Go.ChangeShapes Go.WideShapes Go.ChangeAt Go.RowKit Go.Joins
set_option linter.unusedVariables false
set_option linter.unusedSimpArgs false
set_option linter.unnecessarySimpa false

theorem own : ownKnob Try.prog.godebug = none := by kernel_rfl
theorem laidOut : laidOutB Try.prog = true := by kernel_rfl

set_option maxRecDepth 100000 in
set_option maxHeartbeats 4000000 in
theorem walk (w : World) (a0 : Option Addr) (len0 cap0 : Nat) (w0 : CodeOk w a0 len0 cap0) :
    Calls Try.prog 11 #[.slice a0 len0 cap0] w fun e w' => e = .returned (.bool true) ∧ Below w.heap.size w w' := by
  by_cases hl : 1048576 < len0
  · have w0' := w0.2.1
    unfold maxLen at w0'
    clear w0
    go_enter Try.func11, Try.ntmps11
    go_wp2
    go_ret
    exact ⟨rfl, Below.refl _ _⟩
  · have w0' := w0.2.1
    unfold maxLen at w0'
    have hle := w0.1
    have HW := Lib.hid w0
    clear w0
    go_enter Try.func11, Try.ntmps11
    go_wp2_with fail
    refine (drPauseRun_any _ _ _ _ HW.out).mono ?_; rintro e w1 ⟨s, t, lo, hi, p, xs, A, cp, rfl, ⟨t0, t1⟩, ⟨l0, l1⟩, ⟨h0, h1⟩, ⟨p0, p1⟩, hx6, hO0, hB0⟩
    obtain ⟨m, hm⟩ : ∃ m, xs.length = m := ⟨_, rfl⟩
    rw [hm] at hx6 ⊢
    have HM := Lib.hid hm
    clear hm
    cases hb9 : paB t lo hi p xs
    · have HL : Hid (paL s t lo hi p xs = []) := Lib.hid (pa_no hb9).1
      have HR : Hid (paU s t lo hi p xs = false) := Lib.hid (pa_no hb9).2.1
      have HU : Hid (paV s t lo hi p xs = 0) := Lib.hid (pa_no hb9).2.2
      have HQ : Hid (([] : List Bool).length = 0) := Lib.hid rfl
      rcases paB_false hb9 with hb8 | ⟨hb8, hv⟩
      · rcases psB_false hb8 with h2 | ⟨h2, h3⟩ | ⟨h2, h3, h4⟩
        · have HT := Lib.hid h2
          clear h2 hb8 hb9
          have hP1 : (w1.alloc (.cells #[.bool s, .int .i64 t] 45)).heap[w1.heap.size]? = some (.cells #[.bool s, .int .i64 t] 45) := by have := blk_new (w1) (.cells #[.bool s, .int .i64 t] 45); simpa using this
          have hB1 := hB0.alloc hB0.size (.cells #[.bool s, .int .i64 t] 45)
          have hO1 := hO0.next (bel1 _ (.cells #[.bool s, .int .i64 t] 45))
          have zBP := hB0.size
          have zPQ := blk_lt hP1
          have hQ2 : ((w1.alloc (.cells #[.bool s, .int .i64 t] 45)).alloc (.cells #[.int .i64 lo, .int .i64 hi] 24)).heap[w1.heap.size + 1]? = some (.cells #[.int .i64 lo, .int .i64 hi] 24) := by have := blk_new ((w1.alloc (.cells #[.bool s, .int .i64 t] 45))) (.cells #[.int .i64 lo, .int .i64 hi] 24); simpa using this
          have hP2 := blk_old hP1 (.cells #[.int .i64 lo, .int .i64 hi] 24)
          have hB2 := hB1.alloc hB1.size (.cells #[.int .i64 lo, .int .i64 hi] 24)
          have hO2 := hO1.next (bel1 _ (.cells #[.int .i64 lo, .int .i64 hi] 24))
          have zBQ := hB1.size
          obtain ⟨cP2_0, cP2_1, fP2_0, fP2_1, zP2⟩ := blk2 hP2
          obtain ⟨cQ2_0, cQ2_1, fQ2_0, fQ2_1, zQ2⟩ := blk2 hQ2
          go_wp2_with fail
          refine (iPa_is A cp xs _ HM.out hO2.row (by omega) HL.out HR.out HU.out).mono ?_; rintro e' w3 ⟨V, cv, rfl, hV3, hw3⟩
          have hP3 := blk_next hP2 hw3
          have hQ3 := blk_next hQ2 hw3
          have hO3 := hO2.next hw3
          have hB3 := bel_next hB2 hw3
          have hV3 := hV3.mono (base' := w.heap.size) hB2.size
          rw [HQ.out]
          have zPR := blk_lt hP3
          have zQR := blk_lt hQ3
          have hR4 : (w3.alloc (.cells #[.bool false, .int .i64 0] 45)).heap[w3.heap.size]? = some (.cells #[.bool false, .int .i64 0] 45) := by have := blk_new (w3) (.cells #[.bool false, .int .i64 0] 45); simpa using this
          have hP4 := blk_old hP3 (.cells #[.bool false, .int .i64 0] 45)
          have hQ4 := blk_old hQ3 (.cells #[.bool false, .int .i64 0] 45)
          have hB4 := hB3.alloc hB3.size (.cells #[.bool false, .int .i64 0] 45)
          have hO4 := hO3.next (bel1 _ (.cells #[.bool false, .int .i64 0] 45))
          have hV4 := hV3.next (bel1 _ (.cells #[.bool false, .int .i64 0] 45))
          have zBR := hB3.size
          obtain ⟨cP4_0, cP4_1, fP4_0, fP4_1, zP4⟩ := blk2 hP4
          obtain ⟨cQ4_0, cQ4_1, fQ4_0, fQ4_1, zQ4⟩ := blk2 hQ4
          obtain ⟨cR4_0, cR4_1, fR4_0, fR4_1, zR4⟩ := blk2 hR4
          go_wp2_with fail
          refine (sPa_is A cp xs _ HM.out hO4.row (by omega) HL.out HR.out HU.out).mono ?_; rintro e' w5 ⟨U, cu, rfl, hU5, hw5⟩
          have hP5 := blk_next hP4 hw5
          have hQ5 := blk_next hQ4 hw5
          have hR5 := blk_next hR4 hw5
          have hO5 := hO4.next hw5
          have hV5 := hV4.next hw5
          have hB5 := bel_next hB4 hw5
          have hU5 := hU5.mono (base' := w.heap.size) hB4.size
          rw [HQ.out]
          have zPK := blk_lt hP5
          have zQK := blk_lt hQ5
          have zRK := blk_lt hR5
          have hK6 : (w5.alloc (.cells #[.bool false, .int .i64 0] 45)).heap[w5.heap.size]? = some (.cells #[.bool false, .int .i64 0] 45) := by have := blk_new (w5) (.cells #[.bool false, .int .i64 0] 45); simpa using this
          have hP6 := blk_old hP5 (.cells #[.bool false, .int .i64 0] 45)
          have hQ6 := blk_old hQ5 (.cells #[.bool false, .int .i64 0] 45)
          have hR6 := blk_old hR5 (.cells #[.bool false, .int .i64 0] 45)
          have hB6 := hB5.alloc hB5.size (.cells #[.bool false, .int .i64 0] 45)
          have hO6 := hO5.next (bel1 _ (.cells #[.bool false, .int .i64 0] 45))
          have hV6 := hV5.next (bel1 _ (.cells #[.bool false, .int .i64 0] 45))
          have hU6 := hU5.next (bel1 _ (.cells #[.bool false, .int .i64 0] 45))
          have zBK := hB5.size
          obtain ⟨cP6_0, cP6_1, fP6_0, fP6_1, zP6⟩ := blk2 hP6
          obtain ⟨cQ6_0, cQ6_1, fQ6_0, fQ6_1, zQ6⟩ := blk2 hQ6
          obtain ⟨cR6_0, cR6_1, fR6_0, fR6_1, zR6⟩ := blk2 hR6
          obtain ⟨cK6_0, cK6_1, fK6_0, fK6_1, zK6⟩ := blk2 hK6
          go_wp2_with fail
          refine (sameBools_is V U cv cu [] HQ.out hV6.row hU6.row (by omega)).mono ?_; rintro e' w7 ⟨rfl, hw7⟩
          have hP7 := blk_next hP6 hw7
          have hQ7 := blk_next hQ6 hw7
          have hR7 := blk_next hR6 hw7
          have hK7 := blk_next hK6 hw7
          have hO7 := hO6.next hw7
          have hV7 := hV6.next hw7
          have hU7 := hU6.next hw7
          have hB7 := bel_next hB6 hw7
          obtain ⟨cP7_0, cP7_1, fP7_0, fP7_1, zP7⟩ := blk2 hP7
          obtain ⟨cQ7_0, cQ7_1, fQ7_0, fQ7_1, zQ7⟩ := blk2 hQ7
          obtain ⟨cR7_0, cR7_1, fR7_0, fR7_1, zR7⟩ := blk2 hR7
          obtain ⟨cK7_0, cK7_1, fK7_0, fK7_1, zK7⟩ := blk2 hK7
          go_wp2_with fail
          refine (sBl_is _ HT.out).mono ?_; rintro e' w8 ⟨rfl, hw8⟩
          have hP8 := blk_next hP7 hw8
          have hQ8 := blk_next hQ7 hw8
          have hR8 := blk_next hR7 hw8
          have hK8 := blk_next hK7 hw8
          have hO8 := hO7.next hw8
          have hV8 := hV7.next hw8
          have hB8 := bel_next hB7 hw8
          obtain ⟨cP8_0, cP8_1, fP8_0, fP8_1, zP8⟩ := blk2 hP8
          obtain ⟨cQ8_0, cQ8_1, fQ8_0, fQ8_1, zQ8⟩ := blk2 hQ8
          obtain ⟨cR8_0, cR8_1, fR8_0, fR8_1, zR8⟩ := blk2 hR8
          obtain ⟨cK8_0, cK8_1, fK8_0, fK8_1, zK8⟩ := blk2 hK8
          go_wp2_with fail
          refine (alive_bel _).mono ?_; rintro e' w9 ⟨rfl, hw9⟩
          have hP9 := blk_next hP8 hw9
          have hQ9 := blk_next hQ8 hw9
          have hR9 := blk_next hR8 hw9
          have hK9 := blk_next hK8 hw9
          have hO9 := hO8.next hw9
          have hV9 := hV8.next hw9
          have hB9 := bel_next hB8 hw9
          go_wp2
          go_ret
          exact ⟨rfl, by first | exact hB9 | exact hB9.drew⟩
        · have HT := Lib.hid h2
          have HB := Lib.hid h3
          clear h2 h3 hb8 hb9
          have hP1 : (w1.alloc (.cells #[.bool s, .int .i64 t] 45)).heap[w1.heap.size]? = some (.cells #[.bool s, .int .i64 t] 45) := by have := blk_new (w1) (.cells #[.bool s, .int .i64 t] 45); simpa using this
          have hB1 := hB0.alloc hB0.size (.cells #[.bool s, .int .i64 t] 45)
          have hO1 := hO0.next (bel1 _ (.cells #[.bool s, .int .i64 t] 45))
          have zBP := hB0.size
          have zPQ := blk_lt hP1
          have hQ2 : ((w1.alloc (.cells #[.bool s, .int .i64 t] 45)).alloc (.cells #[.int .i64 lo, .int .i64 hi] 24)).heap[w1.heap.size + 1]? = some (.cells #[.int .i64 lo, .int .i64 hi] 24) := by have := blk_new ((w1.alloc (.cells #[.bool s, .int .i64 t] 45))) (.cells #[.int .i64 lo, .int .i64 hi] 24); simpa using this
          have hP2 := blk_old hP1 (.cells #[.int .i64 lo, .int .i64 hi] 24)
          have hB2 := hB1.alloc hB1.size (.cells #[.int .i64 lo, .int .i64 hi] 24)
          have hO2 := hO1.next (bel1 _ (.cells #[.int .i64 lo, .int .i64 hi] 24))
          have zBQ := hB1.size
          obtain ⟨cP2_0, cP2_1, fP2_0, fP2_1, zP2⟩ := blk2 hP2
          obtain ⟨cQ2_0, cQ2_1, fQ2_0, fQ2_1, zQ2⟩ := blk2 hQ2
          go_wp2_with fail
          refine (iPa_is A cp xs _ HM.out hO2.row (by omega) HL.out HR.out HU.out).mono ?_; rintro e' w3 ⟨V, cv, rfl, hV3, hw3⟩
          have hP3 := blk_next hP2 hw3
          have hQ3 := blk_next hQ2 hw3
          have hO3 := hO2.next hw3
          have hB3 := bel_next hB2 hw3
          have hV3 := hV3.mono (base' := w.heap.size) hB2.size
          rw [HQ.out]
          have zPR := blk_lt hP3
          have zQR := blk_lt hQ3
          have hR4 : (w3.alloc (.cells #[.bool false, .int .i64 0] 45)).heap[w3.heap.size]? = some (.cells #[.bool false, .int .i64 0] 45) := by have := blk_new (w3) (.cells #[.bool false, .int .i64 0] 45); simpa using this
          have hP4 := blk_old hP3 (.cells #[.bool false, .int .i64 0] 45)
          have hQ4 := blk_old hQ3 (.cells #[.bool false, .int .i64 0] 45)
          have hB4 := hB3.alloc hB3.size (.cells #[.bool false, .int .i64 0] 45)
          have hO4 := hO3.next (bel1 _ (.cells #[.bool false, .int .i64 0] 45))
          have hV4 := hV3.next (bel1 _ (.cells #[.bool false, .int .i64 0] 45))
          have zBR := hB3.size
          obtain ⟨cP4_0, cP4_1, fP4_0, fP4_1, zP4⟩ := blk2 hP4
          obtain ⟨cQ4_0, cQ4_1, fQ4_0, fQ4_1, zQ4⟩ := blk2 hQ4
          obtain ⟨cR4_0, cR4_1, fR4_0, fR4_1, zR4⟩ := blk2 hR4
          go_wp2_with fail
          refine (sPa_is A cp xs _ HM.out hO4.row (by omega) HL.out HR.out HU.out).mono ?_; rintro e' w5 ⟨U, cu, rfl, hU5, hw5⟩
          have hP5 := blk_next hP4 hw5
          have hQ5 := blk_next hQ4 hw5
          have hR5 := blk_next hR4 hw5
          have hO5 := hO4.next hw5
          have hV5 := hV4.next hw5
          have hB5 := bel_next hB4 hw5
          have hU5 := hU5.mono (base' := w.heap.size) hB4.size
          rw [HQ.out]
          have zPK := blk_lt hP5
          have zQK := blk_lt hQ5
          have zRK := blk_lt hR5
          have hK6 : (w5.alloc (.cells #[.bool false, .int .i64 0] 45)).heap[w5.heap.size]? = some (.cells #[.bool false, .int .i64 0] 45) := by have := blk_new (w5) (.cells #[.bool false, .int .i64 0] 45); simpa using this
          have hP6 := blk_old hP5 (.cells #[.bool false, .int .i64 0] 45)
          have hQ6 := blk_old hQ5 (.cells #[.bool false, .int .i64 0] 45)
          have hR6 := blk_old hR5 (.cells #[.bool false, .int .i64 0] 45)
          have hB6 := hB5.alloc hB5.size (.cells #[.bool false, .int .i64 0] 45)
          have hO6 := hO5.next (bel1 _ (.cells #[.bool false, .int .i64 0] 45))
          have hV6 := hV5.next (bel1 _ (.cells #[.bool false, .int .i64 0] 45))
          have hU6 := hU5.next (bel1 _ (.cells #[.bool false, .int .i64 0] 45))
          have zBK := hB5.size
          obtain ⟨cP6_0, cP6_1, fP6_0, fP6_1, zP6⟩ := blk2 hP6
          obtain ⟨cQ6_0, cQ6_1, fQ6_0, fQ6_1, zQ6⟩ := blk2 hQ6
          obtain ⟨cR6_0, cR6_1, fR6_0, fR6_1, zR6⟩ := blk2 hR6
          obtain ⟨cK6_0, cK6_1, fK6_0, fK6_1, zK6⟩ := blk2 hK6
          go_wp2_with fail
          refine (sameBools_is V U cv cu [] HQ.out hV6.row hU6.row (by omega)).mono ?_; rintro e' w7 ⟨rfl, hw7⟩
          have hP7 := blk_next hP6 hw7
          have hQ7 := blk_next hQ6 hw7
          have hR7 := blk_next hR6 hw7
          have hK7 := blk_next hK6 hw7
          have hO7 := hO6.next hw7
          have hV7 := hV6.next hw7
          have hU7 := hU6.next hw7
          have hB7 := bel_next hB6 hw7
          obtain ⟨cP7_0, cP7_1, fP7_0, fP7_1, zP7⟩ := blk2 hP7
          obtain ⟨cQ7_0, cQ7_1, fQ7_0, fQ7_1, zQ7⟩ := blk2 hQ7
          obtain ⟨cR7_0, cR7_1, fR7_0, fR7_1, zR7⟩ := blk2 hR7
          obtain ⟨cK7_0, cK7_1, fK7_0, fK7_1, zK7⟩ := blk2 hK7
          go_wp2_with fail
          refine (sBl_is _ HT.out).mono ?_; rintro e' w8 ⟨rfl, hw8⟩
          have hP8 := blk_next hP7 hw8
          have hQ8 := blk_next hQ7 hw8
          have hR8 := blk_next hR7 hw8
          have hK8 := blk_next hK7 hw8
          have hO8 := hO7.next hw8
          have hV8 := hV7.next hw8
          have hB8 := bel_next hB7 hw8
          obtain ⟨cP8_0, cP8_1, fP8_0, fP8_1, zP8⟩ := blk2 hP8
          obtain ⟨cQ8_0, cQ8_1, fQ8_0, fQ8_1, zQ8⟩ := blk2 hQ8
          obtain ⟨cR8_0, cR8_1, fR8_0, fR8_1, zR8⟩ := blk2 hR8
          obtain ⟨cK8_0, cK8_1, fK8_0, fK8_1, zK8⟩ := blk2 hK8
          go_wp2_with fail
          refine (sBd_is _ HB.out).mono ?_; rintro e' w9 ⟨rfl, hw9⟩
          have hP9 := blk_next hP8 hw9
          have hQ9 := blk_next hQ8 hw9
          have hR9 := blk_next hR8 hw9
          have hK9 := blk_next hK8 hw9
          have hO9 := hO8.next hw9
          have hV9 := hV8.next hw9
          have hB9 := bel_next hB8 hw9
          obtain ⟨cP9_0, cP9_1, fP9_0, fP9_1, zP9⟩ := blk2 hP9
          obtain ⟨cQ9_0, cQ9_1, fQ9_0, fQ9_1, zQ9⟩ := blk2 hQ9
          obtain ⟨cR9_0, cR9_1, fR9_0, fR9_1, zR9⟩ := blk2 hR9
          obtain ⟨cK9_0, cK9_1, fK9_0, fK9_1, zK9⟩ := blk2 hK9
          go_wp2_with fail
          refine (alive_bel _).mono ?_; rintro e' w10 ⟨rfl, hw10⟩
          have hP10 := blk_next hP9 hw10
          have hQ10 := blk_next hQ9 hw10
          have hR10 := blk_next hR9 hw10
          have hK10 := blk_next hK9 hw10
          have hO10 := hO9.next hw10
          have hV10 := hV9.next hw10
          have hB10 := bel_next hB9 hw10
          go_wp2
          go_ret
          exact ⟨rfl, by first | exact hB10 | exact hB10.drew⟩
        · have HT := Lib.hid h2
          have HB := Lib.hid h3
          have h5 : p < 0 ∨ 20 < p := by unfold inV at h4; simp at h4; omega
          clear h2 h3 h4 hb8 hb9
          rcases h5 with h5 | h5
          · have hP1 : (w1.alloc (.cells #[.bool s, .int .i64 t] 45)).heap[w1.heap.size]? = some (.cells #[.bool s, .int .i64 t] 45) := by have := blk_new (w1) (.cells #[.bool s, .int .i64 t] 45); simpa using this
            have hB1 := hB0.alloc hB0.size (.cells #[.bool s, .int .i64 t] 45)
            have hO1 := hO0.next (bel1 _ (.cells #[.bool s, .int .i64 t] 45))
            have zBP := hB0.size
            have zPQ := blk_lt hP1
            have hQ2 : ((w1.alloc (.cells #[.bool s, .int .i64 t] 45)).alloc (.cells #[.int .i64 lo, .int .i64 hi] 24)).heap[w1.heap.size + 1]? = some (.cells #[.int .i64 lo, .int .i64 hi] 24) := by have := blk_new ((w1.alloc (.cells #[.bool s, .int .i64 t] 45))) (.cells #[.int .i64 lo, .int .i64 hi] 24); simpa using this
            have hP2 := blk_old hP1 (.cells #[.int .i64 lo, .int .i64 hi] 24)
            have hB2 := hB1.alloc hB1.size (.cells #[.int .i64 lo, .int .i64 hi] 24)
            have hO2 := hO1.next (bel1 _ (.cells #[.int .i64 lo, .int .i64 hi] 24))
            have zBQ := hB1.size
            obtain ⟨cP2_0, cP2_1, fP2_0, fP2_1, zP2⟩ := blk2 hP2
            obtain ⟨cQ2_0, cQ2_1, fQ2_0, fQ2_1, zQ2⟩ := blk2 hQ2
            go_wp2_with fail
            refine (iPa_is A cp xs _ HM.out hO2.row (by omega) HL.out HR.out HU.out).mono ?_; rintro e' w3 ⟨V, cv, rfl, hV3, hw3⟩
            have hP3 := blk_next hP2 hw3
            have hQ3 := blk_next hQ2 hw3
            have hO3 := hO2.next hw3
            have hB3 := bel_next hB2 hw3
            have hV3 := hV3.mono (base' := w.heap.size) hB2.size
            rw [HQ.out]
            have zPR := blk_lt hP3
            have zQR := blk_lt hQ3
            have hR4 : (w3.alloc (.cells #[.bool false, .int .i64 0] 45)).heap[w3.heap.size]? = some (.cells #[.bool false, .int .i64 0] 45) := by have := blk_new (w3) (.cells #[.bool false, .int .i64 0] 45); simpa using this
            have hP4 := blk_old hP3 (.cells #[.bool false, .int .i64 0] 45)
            have hQ4 := blk_old hQ3 (.cells #[.bool false, .int .i64 0] 45)
            have hB4 := hB3.alloc hB3.size (.cells #[.bool false, .int .i64 0] 45)
            have hO4 := hO3.next (bel1 _ (.cells #[.bool false, .int .i64 0] 45))
            have hV4 := hV3.next (bel1 _ (.cells #[.bool false, .int .i64 0] 45))
            have zBR := hB3.size
            obtain ⟨cP4_0, cP4_1, fP4_0, fP4_1, zP4⟩ := blk2 hP4
            obtain ⟨cQ4_0, cQ4_1, fQ4_0, fQ4_1, zQ4⟩ := blk2 hQ4
            obtain ⟨cR4_0, cR4_1, fR4_0, fR4_1, zR4⟩ := blk2 hR4
            go_wp2_with fail
            refine (sPa_is A cp xs _ HM.out hO4.row (by omega) HL.out HR.out HU.out).mono ?_; rintro e' w5 ⟨U, cu, rfl, hU5, hw5⟩
            have hP5 := blk_next hP4 hw5
            have hQ5 := blk_next hQ4 hw5
            have hR5 := blk_next hR4 hw5
            have hO5 := hO4.next hw5
            have hV5 := hV4.next hw5
            have hB5 := bel_next hB4 hw5
            have hU5 := hU5.mono (base' := w.heap.size) hB4.size
            rw [HQ.out]
            have zPK := blk_lt hP5
            have zQK := blk_lt hQ5
            have zRK := blk_lt hR5
            have hK6 : (w5.alloc (.cells #[.bool false, .int .i64 0] 45)).heap[w5.heap.size]? = some (.cells #[.bool false, .int .i64 0] 45) := by have := blk_new (w5) (.cells #[.bool false, .int .i64 0] 45); simpa using this
            have hP6 := blk_old hP5 (.cells #[.bool false, .int .i64 0] 45)
            have hQ6 := blk_old hQ5 (.cells #[.bool false, .int .i64 0] 45)
            have hR6 := blk_old hR5 (.cells #[.bool false, .int .i64 0] 45)
            have hB6 := hB5.alloc hB5.size (.cells #[.bool false, .int .i64 0] 45)
            have hO6 := hO5.next (bel1 _ (.cells #[.bool false, .int .i64 0] 45))
            have hV6 := hV5.next (bel1 _ (.cells #[.bool false, .int .i64 0] 45))
            have hU6 := hU5.next (bel1 _ (.cells #[.bool false, .int .i64 0] 45))
            have zBK := hB5.size
            obtain ⟨cP6_0, cP6_1, fP6_0, fP6_1, zP6⟩ := blk2 hP6
            obtain ⟨cQ6_0, cQ6_1, fQ6_0, fQ6_1, zQ6⟩ := blk2 hQ6
            obtain ⟨cR6_0, cR6_1, fR6_0, fR6_1, zR6⟩ := blk2 hR6
            obtain ⟨cK6_0, cK6_1, fK6_0, fK6_1, zK6⟩ := blk2 hK6
            go_wp2_with fail
            refine (sameBools_is V U cv cu [] HQ.out hV6.row hU6.row (by omega)).mono ?_; rintro e' w7 ⟨rfl, hw7⟩
            have hP7 := blk_next hP6 hw7
            have hQ7 := blk_next hQ6 hw7
            have hR7 := blk_next hR6 hw7
            have hK7 := blk_next hK6 hw7
            have hO7 := hO6.next hw7
            have hV7 := hV6.next hw7
            have hU7 := hU6.next hw7
            have hB7 := bel_next hB6 hw7
            obtain ⟨cP7_0, cP7_1, fP7_0, fP7_1, zP7⟩ := blk2 hP7
            obtain ⟨cQ7_0, cQ7_1, fQ7_0, fQ7_1, zQ7⟩ := blk2 hQ7
            obtain ⟨cR7_0, cR7_1, fR7_0, fR7_1, zR7⟩ := blk2 hR7
            obtain ⟨cK7_0, cK7_1, fK7_0, fK7_1, zK7⟩ := blk2 hK7
            go_wp2_with fail
            refine (sBl_is _ HT.out).mono ?_; rintro e' w8 ⟨rfl, hw8⟩
            have hP8 := blk_next hP7 hw8
            have hQ8 := blk_next hQ7 hw8
            have hR8 := blk_next hR7 hw8
            have hK8 := blk_next hK7 hw8
            have hO8 := hO7.next hw8
            have hV8 := hV7.next hw8
            have hB8 := bel_next hB7 hw8
            obtain ⟨cP8_0, cP8_1, fP8_0, fP8_1, zP8⟩ := blk2 hP8
            obtain ⟨cQ8_0, cQ8_1, fQ8_0, fQ8_1, zQ8⟩ := blk2 hQ8
            obtain ⟨cR8_0, cR8_1, fR8_0, fR8_1, zR8⟩ := blk2 hR8
            obtain ⟨cK8_0, cK8_1, fK8_0, fK8_1, zK8⟩ := blk2 hK8
            go_wp2_with fail
            refine (sBd_is _ HB.out).mono ?_; rintro e' w9 ⟨rfl, hw9⟩
            have hP9 := blk_next hP8 hw9
            have hQ9 := blk_next hQ8 hw9
            have hR9 := blk_next hR8 hw9
            have hK9 := blk_next hK8 hw9
            have hO9 := hO8.next hw9
            have hV9 := hV8.next hw9
            have hB9 := bel_next hB8 hw9
            obtain ⟨cP9_0, cP9_1, fP9_0, fP9_1, zP9⟩ := blk2 hP9
            obtain ⟨cQ9_0, cQ9_1, fQ9_0, fQ9_1, zQ9⟩ := blk2 hQ9
            obtain ⟨cR9_0, cR9_1, fR9_0, fR9_1, zR9⟩ := blk2 hR9
            obtain ⟨cK9_0, cK9_1, fK9_0, fK9_1, zK9⟩ := blk2 hK9
            go_wp2_with fail
            refine (alive_bel _).mono ?_; rintro e' w10 ⟨rfl, hw10⟩
            have hP10 := blk_next hP9 hw10
            have hQ10 := blk_next hQ9 hw10
            have hR10 := blk_next hR9 hw10
            have hK10 := blk_next hK9 hw10
            have hO10 := hO9.next hw10
            have hV10 := hV9.next hw10
            have hB10 := bel_next hB9 hw10
            go_wp2
            go_ret
            exact ⟨rfl, by first | exact hB10 | exact hB10.drew⟩
          · have hP1 : (w1.alloc (.cells #[.bool s, .int .i64 t] 45)).heap[w1.heap.size]? = some (.cells #[.bool s, .int .i64 t] 45) := by have := blk_new (w1) (.cells #[.bool s, .int .i64 t] 45); simpa using this
            have hB1 := hB0.alloc hB0.size (.cells #[.bool s, .int .i64 t] 45)
            have hO1 := hO0.next (bel1 _ (.cells #[.bool s, .int .i64 t] 45))
            have zBP := hB0.size
            have zPQ := blk_lt hP1
            have hQ2 : ((w1.alloc (.cells #[.bool s, .int .i64 t] 45)).alloc (.cells #[.int .i64 lo, .int .i64 hi] 24)).heap[w1.heap.size + 1]? = some (.cells #[.int .i64 lo, .int .i64 hi] 24) := by have := blk_new ((w1.alloc (.cells #[.bool s, .int .i64 t] 45))) (.cells #[.int .i64 lo, .int .i64 hi] 24); simpa using this
            have hP2 := blk_old hP1 (.cells #[.int .i64 lo, .int .i64 hi] 24)
            have hB2 := hB1.alloc hB1.size (.cells #[.int .i64 lo, .int .i64 hi] 24)
            have hO2 := hO1.next (bel1 _ (.cells #[.int .i64 lo, .int .i64 hi] 24))
            have zBQ := hB1.size
            obtain ⟨cP2_0, cP2_1, fP2_0, fP2_1, zP2⟩ := blk2 hP2
            obtain ⟨cQ2_0, cQ2_1, fQ2_0, fQ2_1, zQ2⟩ := blk2 hQ2
            go_wp2_with fail
            refine (iPa_is A cp xs _ HM.out hO2.row (by omega) HL.out HR.out HU.out).mono ?_; rintro e' w3 ⟨V, cv, rfl, hV3, hw3⟩
            have hP3 := blk_next hP2 hw3
            have hQ3 := blk_next hQ2 hw3
            have hO3 := hO2.next hw3
            have hB3 := bel_next hB2 hw3
            have hV3 := hV3.mono (base' := w.heap.size) hB2.size
            rw [HQ.out]
            have zPR := blk_lt hP3
            have zQR := blk_lt hQ3
            have hR4 : (w3.alloc (.cells #[.bool false, .int .i64 0] 45)).heap[w3.heap.size]? = some (.cells #[.bool false, .int .i64 0] 45) := by have := blk_new (w3) (.cells #[.bool false, .int .i64 0] 45); simpa using this
            have hP4 := blk_old hP3 (.cells #[.bool false, .int .i64 0] 45)
            have hQ4 := blk_old hQ3 (.cells #[.bool false, .int .i64 0] 45)
            have hB4 := hB3.alloc hB3.size (.cells #[.bool false, .int .i64 0] 45)
            have hO4 := hO3.next (bel1 _ (.cells #[.bool false, .int .i64 0] 45))
            have hV4 := hV3.next (bel1 _ (.cells #[.bool false, .int .i64 0] 45))
            have zBR := hB3.size
            obtain ⟨cP4_0, cP4_1, fP4_0, fP4_1, zP4⟩ := blk2 hP4
            obtain ⟨cQ4_0, cQ4_1, fQ4_0, fQ4_1, zQ4⟩ := blk2 hQ4
            obtain ⟨cR4_0, cR4_1, fR4_0, fR4_1, zR4⟩ := blk2 hR4
            go_wp2_with fail
            refine (sPa_is A cp xs _ HM.out hO4.row (by omega) HL.out HR.out HU.out).mono ?_; rintro e' w5 ⟨U, cu, rfl, hU5, hw5⟩
            have hP5 := blk_next hP4 hw5
            have hQ5 := blk_next hQ4 hw5
            have hR5 := blk_next hR4 hw5
            have hO5 := hO4.next hw5
            have hV5 := hV4.next hw5
            have hB5 := bel_next hB4 hw5
            have hU5 := hU5.mono (base' := w.heap.size) hB4.size
            rw [HQ.out]
            have zPK := blk_lt hP5
            have zQK := blk_lt hQ5
            have zRK := blk_lt hR5
            have hK6 : (w5.alloc (.cells #[.bool false, .int .i64 0] 45)).heap[w5.heap.size]? = some (.cells #[.bool false, .int .i64 0] 45) := by have := blk_new (w5) (.cells #[.bool false, .int .i64 0] 45); simpa using this
            have hP6 := blk_old hP5 (.cells #[.bool false, .int .i64 0] 45)
            have hQ6 := blk_old hQ5 (.cells #[.bool false, .int .i64 0] 45)
            have hR6 := blk_old hR5 (.cells #[.bool false, .int .i64 0] 45)
            have hB6 := hB5.alloc hB5.size (.cells #[.bool false, .int .i64 0] 45)
            have hO6 := hO5.next (bel1 _ (.cells #[.bool false, .int .i64 0] 45))
            have hV6 := hV5.next (bel1 _ (.cells #[.bool false, .int .i64 0] 45))
            have hU6 := hU5.next (bel1 _ (.cells #[.bool false, .int .i64 0] 45))
            have zBK := hB5.size
            obtain ⟨cP6_0, cP6_1, fP6_0, fP6_1, zP6⟩ := blk2 hP6
            obtain ⟨cQ6_0, cQ6_1, fQ6_0, fQ6_1, zQ6⟩ := blk2 hQ6
            obtain ⟨cR6_0, cR6_1, fR6_0, fR6_1, zR6⟩ := blk2 hR6
            obtain ⟨cK6_0, cK6_1, fK6_0, fK6_1, zK6⟩ := blk2 hK6
            go_wp2_with fail
            refine (sameBools_is V U cv cu [] HQ.out hV6.row hU6.row (by omega)).mono ?_; rintro e' w7 ⟨rfl, hw7⟩
            have hP7 := blk_next hP6 hw7
            have hQ7 := blk_next hQ6 hw7
            have hR7 := blk_next hR6 hw7
            have hK7 := blk_next hK6 hw7
            have hO7 := hO6.next hw7
            have hV7 := hV6.next hw7
            have hU7 := hU6.next hw7
            have hB7 := bel_next hB6 hw7
            obtain ⟨cP7_0, cP7_1, fP7_0, fP7_1, zP7⟩ := blk2 hP7
            obtain ⟨cQ7_0, cQ7_1, fQ7_0, fQ7_1, zQ7⟩ := blk2 hQ7
            obtain ⟨cR7_0, cR7_1, fR7_0, fR7_1, zR7⟩ := blk2 hR7
            obtain ⟨cK7_0, cK7_1, fK7_0, fK7_1, zK7⟩ := blk2 hK7
            go_wp2_with fail
            refine (sBl_is _ HT.out).mono ?_; rintro e' w8 ⟨rfl, hw8⟩
            have hP8 := blk_next hP7 hw8
            have hQ8 := blk_next hQ7 hw8
            have hR8 := blk_next hR7 hw8
            have hK8 := blk_next hK7 hw8
            have hO8 := hO7.next hw8
            have hV8 := hV7.next hw8
            have hB8 := bel_next hB7 hw8
            obtain ⟨cP8_0, cP8_1, fP8_0, fP8_1, zP8⟩ := blk2 hP8
            obtain ⟨cQ8_0, cQ8_1, fQ8_0, fQ8_1, zQ8⟩ := blk2 hQ8
            obtain ⟨cR8_0, cR8_1, fR8_0, fR8_1, zR8⟩ := blk2 hR8
            obtain ⟨cK8_0, cK8_1, fK8_0, fK8_1, zK8⟩ := blk2 hK8
            go_wp2_with fail
            refine (sBd_is _ HB.out).mono ?_; rintro e' w9 ⟨rfl, hw9⟩
            have hP9 := blk_next hP8 hw9
            have hQ9 := blk_next hQ8 hw9
            have hR9 := blk_next hR8 hw9
            have hK9 := blk_next hK8 hw9
            have hO9 := hO8.next hw9
            have hV9 := hV8.next hw9
            have hB9 := bel_next hB8 hw9
            obtain ⟨cP9_0, cP9_1, fP9_0, fP9_1, zP9⟩ := blk2 hP9
            obtain ⟨cQ9_0, cQ9_1, fQ9_0, fQ9_1, zQ9⟩ := blk2 hQ9
            obtain ⟨cR9_0, cR9_1, fR9_0, fR9_1, zR9⟩ := blk2 hR9
            obtain ⟨cK9_0, cK9_1, fK9_0, fK9_1, zK9⟩ := blk2 hK9
            go_wp2_with fail
            refine (alive_bel _).mono ?_; rintro e' w10 ⟨rfl, hw10⟩
            have hP10 := blk_next hP9 hw10
            have hQ10 := blk_next hQ9 hw10
            have hR10 := blk_next hR9 hw10
            have hK10 := blk_next hK9 hw10
            have hO10 := hO9.next hw10
            have hV10 := hV9.next hw10
            have hB10 := bel_next hB9 hw10
            go_wp2
            go_ret
            exact ⟨rfl, by first | exact hB10 | exact hB10.drew⟩
      · obtain ⟨⟨tt0, tt1⟩, hbb, ⟨pp0, pp1⟩⟩ := psB_iff.1 hb8
        obtain ⟨h2, h3, h4⟩ := psB_true hb8
        have HT := Lib.hid h2
        have HB := Lib.hid h3
        have HV := Lib.hid hv
        clear h2 h3 h4 hb8 hb9 hv hbb
        have hP1 : (w1.alloc (.cells #[.bool s, .int .i64 t] 45)).heap[w1.heap.size]? = some (.cells #[.bool s, .int .i64 t] 45) := by have := blk_new (w1) (.cells #[.bool s, .int .i64 t] 45); simpa using this
        have hB1 := hB0.alloc hB0.size (.cells #[.bool s, .int .i64 t] 45)
        have hO1 := hO0.next (bel1 _ (.cells #[.bool s, .int .i64 t] 45))
        have zBP := hB0.size
        have zPQ := blk_lt hP1
        have hQ2 : ((w1.alloc (.cells #[.bool s, .int .i64 t] 45)).alloc (.cells #[.int .i64 lo, .int .i64 hi] 24)).heap[w1.heap.size + 1]? = some (.cells #[.int .i64 lo, .int .i64 hi] 24) := by have := blk_new ((w1.alloc (.cells #[.bool s, .int .i64 t] 45))) (.cells #[.int .i64 lo, .int .i64 hi] 24); simpa using this
        have hP2 := blk_old hP1 (.cells #[.int .i64 lo, .int .i64 hi] 24)
        have hB2 := hB1.alloc hB1.size (.cells #[.int .i64 lo, .int .i64 hi] 24)
        have hO2 := hO1.next (bel1 _ (.cells #[.int .i64 lo, .int .i64 hi] 24))
        have zBQ := hB1.size
        obtain ⟨cP2_0, cP2_1, fP2_0, fP2_1, zP2⟩ := blk2 hP2
        obtain ⟨cQ2_0, cQ2_1, fQ2_0, fQ2_1, zQ2⟩ := blk2 hQ2
        go_wp2_with fail
        refine (iPa_is A cp xs _ HM.out hO2.row (by omega) HL.out HR.out HU.out).mono ?_; rintro e' w3 ⟨V, cv, rfl, hV3, hw3⟩
        have hP3 := blk_next hP2 hw3
        have hQ3 := blk_next hQ2 hw3
        have hO3 := hO2.next hw3
        have hB3 := bel_next hB2 hw3
        have hV3 := hV3.mono (base' := w.heap.size) hB2.size
        rw [HQ.out]
        have zPR := blk_lt hP3
        have zQR := blk_lt hQ3
        have hR4 : (w3.alloc (.cells #[.bool false, .int .i64 0] 45)).heap[w3.heap.size]? = some (.cells #[.bool false, .int .i64 0] 45) := by have := blk_new (w3) (.cells #[.bool false, .int .i64 0] 45); simpa using this
        have hP4 := blk_old hP3 (.cells #[.bool false, .int .i64 0] 45)
        have hQ4 := blk_old hQ3 (.cells #[.bool false, .int .i64 0] 45)
        have hB4 := hB3.alloc hB3.size (.cells #[.bool false, .int .i64 0] 45)
        have hO4 := hO3.next (bel1 _ (.cells #[.bool false, .int .i64 0] 45))
        have hV4 := hV3.next (bel1 _ (.cells #[.bool false, .int .i64 0] 45))
        have zBR := hB3.size
        obtain ⟨cP4_0, cP4_1, fP4_0, fP4_1, zP4⟩ := blk2 hP4
        obtain ⟨cQ4_0, cQ4_1, fQ4_0, fQ4_1, zQ4⟩ := blk2 hQ4
        obtain ⟨cR4_0, cR4_1, fR4_0, fR4_1, zR4⟩ := blk2 hR4
        go_wp2_with fail
        refine (sPa_is A cp xs _ HM.out hO4.row (by omega) HL.out HR.out HU.out).mono ?_; rintro e' w5 ⟨U, cu, rfl, hU5, hw5⟩
        have hP5 := blk_next hP4 hw5
        have hQ5 := blk_next hQ4 hw5
        have hR5 := blk_next hR4 hw5
        have hO5 := hO4.next hw5
        have hV5 := hV4.next hw5
        have hB5 := bel_next hB4 hw5
        have hU5 := hU5.mono (base' := w.heap.size) hB4.size
        rw [HQ.out]
        have zPK := blk_lt hP5
        have zQK := blk_lt hQ5
        have zRK := blk_lt hR5
        have hK6 : (w5.alloc (.cells #[.bool false, .int .i64 0] 45)).heap[w5.heap.size]? = some (.cells #[.bool false, .int .i64 0] 45) := by have := blk_new (w5) (.cells #[.bool false, .int .i64 0] 45); simpa using this
        have hP6 := blk_old hP5 (.cells #[.bool false, .int .i64 0] 45)
        have hQ6 := blk_old hQ5 (.cells #[.bool false, .int .i64 0] 45)
        have hR6 := blk_old hR5 (.cells #[.bool false, .int .i64 0] 45)
        have hB6 := hB5.alloc hB5.size (.cells #[.bool false, .int .i64 0] 45)
        have hO6 := hO5.next (bel1 _ (.cells #[.bool false, .int .i64 0] 45))
        have hV6 := hV5.next (bel1 _ (.cells #[.bool false, .int .i64 0] 45))
        have hU6 := hU5.next (bel1 _ (.cells #[.bool false, .int .i64 0] 45))
        have zBK := hB5.size
        obtain ⟨cP6_0, cP6_1, fP6_0, fP6_1, zP6⟩ := blk2 hP6
        obtain ⟨cQ6_0, cQ6_1, fQ6_0, fQ6_1, zQ6⟩ := blk2 hQ6
        obtain ⟨cR6_0, cR6_1, fR6_0, fR6_1, zR6⟩ := blk2 hR6
        obtain ⟨cK6_0, cK6_1, fK6_0, fK6_1, zK6⟩ := blk2 hK6
        go_wp2_with fail
        refine (sameBools_is V U cv cu [] HQ.out hV6.row hU6.row (by omega)).mono ?_; rintro e' w7 ⟨rfl, hw7⟩
        have hP7 := blk_next hP6 hw7
        have hQ7 := blk_next hQ6 hw7
        have hR7 := blk_next hR6 hw7
        have hK7 := blk_next hK6 hw7
        have hO7 := hO6.next hw7
        have hV7 := hV6.next hw7
        have hU7 := hU6.next hw7
        have hB7 := bel_next hB6 hw7
        obtain ⟨cP7_0, cP7_1, fP7_0, fP7_1, zP7⟩ := blk2 hP7
        obtain ⟨cQ7_0, cQ7_1, fQ7_0, fQ7_1, zQ7⟩ := blk2 hQ7
        obtain ⟨cR7_0, cR7_1, fR7_0, fR7_1, zR7⟩ := blk2 hR7
        obtain ⟨cK7_0, cK7_1, fK7_0, fK7_1, zK7⟩ := blk2 hK7
        go_wp2_with fail
        refine (sBl_is _ HT.out).mono ?_; rintro e' w8 ⟨rfl, hw8⟩
        have hP8 := blk_next hP7 hw8
        have hQ8 := blk_next hQ7 hw8
        have hR8 := blk_next hR7 hw8
        have hK8 := blk_next hK7 hw8
        have hO8 := hO7.next hw8
        have hV8 := hV7.next hw8
        have hB8 := bel_next hB7 hw8
        obtain ⟨cP8_0, cP8_1, fP8_0, fP8_1, zP8⟩ := blk2 hP8
        obtain ⟨cQ8_0, cQ8_1, fQ8_0, fQ8_1, zQ8⟩ := blk2 hQ8
        obtain ⟨cR8_0, cR8_1, fR8_0, fR8_1, zR8⟩ := blk2 hR8
        obtain ⟨cK8_0, cK8_1, fK8_0, fK8_1, zK8⟩ := blk2 hK8
        go_wp2_with fail
        refine (sBd_is _ HB.out).mono ?_; rintro e' w9 ⟨rfl, hw9⟩
        have hP9 := blk_next hP8 hw9
        have hQ9 := blk_next hQ8 hw9
        have hR9 := blk_next hR8 hw9
        have hK9 := blk_next hK8 hw9
        have hO9 := hO8.next hw9
        have hV9 := hV8.next hw9
        have hB9 := bel_next hB8 hw9
        obtain ⟨cP9_0, cP9_1, fP9_0, fP9_1, zP9⟩ := blk2 hP9
        obtain ⟨cQ9_0, cQ9_1, fQ9_0, fQ9_1, zQ9⟩ := blk2 hQ9
        obtain ⟨cR9_0, cR9_1, fR9_0, fR9_1, zR9⟩ := blk2 hR9
        obtain ⟨cK9_0, cK9_1, fK9_0, fK9_1, zK9⟩ := blk2 hK9
        go_wp2_with fail
        refine (sLt_is A cp xs _ HM.out hO9.row (by omega) HV.out).mono ?_; rintro e' w10 ⟨rfl, hw10⟩
        have hP10 := blk_next hP9 hw10
        have hQ10 := blk_next hQ9 hw10
        have hR10 := blk_next hR9 hw10
        have hK10 := blk_next hK9 hw10
        have hO10 := hO9.next hw10
        have hV10 := hV9.next hw10
        have hB10 := bel_next hB9 hw10
        obtain ⟨cP10_0, cP10_1, fP10_0, fP10_1, zP10⟩ := blk2 hP10
        obtain ⟨cQ10_0, cQ10_1, fQ10_0, fQ10_1, zQ10⟩ := blk2 hQ10
        obtain ⟨cR10_0, cR10_1, fR10_0, fR10_1, zR10⟩ := blk2 hR10
        obtain ⟨cK10_0, cK10_1, fK10_0, fK10_1, zK10⟩ := blk2 hK10
        go_wp2_with fail
        refine (alive_bel _).mono ?_; rintro e' w11 ⟨rfl, hw11⟩
        have hP11 := blk_next hP10 hw11
        have hQ11 := blk_next hQ10 hw11
        have hR11 := blk_next hR10 hw11
        have hK11 := blk_next hK10 hw11
        have hO11 := hO10.next hw11
        have hV11 := hV10.next hw11
        have hB11 := bel_next hB10 hw11
        go_wp2
        go_ret
        exact ⟨rfl, by first | exact hB11 | exact hB11.drew⟩
    · obtain ⟨hb8, hv⟩ := paB_iff.1 hb9
      obtain ⟨⟨tt0, tt1⟩, hbb, ⟨pp0, pp1⟩⟩ := psB_iff.1 hb8
      have hm60 : m ≤ 60 := by have := (ltB_iff.1 hv).1; rw [HM.out] at this; exact this
      obtain ⟨l, hl⟩ : ∃ l, paR lo hi p s t xs = l := ⟨_, rfl⟩
      have HL : Hid (paL s t lo hi p xs = l) := Lib.hid ((pa_yes hb9).1.trans hl)
      have HPR := Lib.hid hl
      have HQ : Hid (l.length = m) := Lib.hid (by rw [← hl, paR_len, HM.out])
      obtain ⟨r, hr⟩ : ∃ r, paS lo hi p s t xs = r := ⟨_, rfl⟩
      have HR : Hid (paU s t lo hi p xs = r) := Lib.hid ((pa_yes hb9).2.1.trans hr)
      have HPS := Lib.hid hr
      obtain ⟨u, hu⟩ : ∃ u, paT lo hi p s t xs = u := ⟨_, rfl⟩
      have HU : Hid (paV s t lo hi p xs = u) := Lib.hid ((pa_yes hb9).2.2.trans hu)
      have hok0 : psB t lo hi 0 = true := psB_iff.2 ⟨⟨tt0, tt1⟩, hbb, by omega, by omega⟩
      have hok1 : paB t lo hi 0 xs = true := paB_iff.2 ⟨hok0, hv⟩
      obtain ⟨l0_, hl0⟩ : ∃ l, brR lo hi s xs = l := ⟨_, rfl⟩
      have HL0 : Hid (paL s t lo hi 0 xs = l0_) := Lib.hid (by rw [(pa_yes hok1).1, paR_free _ _ _ _ _ tt0, hl0])
      have HQ0 : Hid (l0_.length = m) := Lib.hid (by rw [← hl0, brR_len, HM.out])
      have HBR : Hid (brL s lo hi xs = l0_) := Lib.hid ((brL_yes (brB_iff.2 ⟨hbb, hv⟩)).trans hl0)
      obtain ⟨r0, hr0⟩ : ∃ r, paU s t lo hi 0 xs = r := ⟨_, rfl⟩
      have HR0 := Lib.hid hr0
      obtain ⟨u0, hu0⟩ : ∃ r, paV s t lo hi 0 xs = r := ⟨_, rfl⟩
      have HU0 := Lib.hid hu0
      obtain ⟨h2, h3, h4⟩ := psB_true hb8
      have HT := Lib.hid h2
      have HB := Lib.hid h3
      have HV := Lib.hid hv
      clear h2 h3 h4 hb8 hb9 hv hbb hl hr hu hok0 hok1 hl0 hr0 hu0
      have hP1 : (w1.alloc (.cells #[.bool s, .int .i64 t] 45)).heap[w1.heap.size]? = some (.cells #[.bool s, .int .i64 t] 45) := by have := blk_new (w1) (.cells #[.bool s, .int .i64 t] 45); simpa using this
      have hB1 := hB0.alloc hB0.size (.cells #[.bool s, .int .i64 t] 45)
      have hO1 := hO0.next (bel1 _ (.cells #[.bool s, .int .i64 t] 45))
      have zBP := hB0.size
      have zPQ := blk_lt hP1
      have hQ2 : ((w1.alloc (.cells #[.bool s, .int .i64 t] 45)).alloc (.cells #[.int .i64 lo, .int .i64 hi] 24)).heap[w1.heap.size + 1]? = some (.cells #[.int .i64 lo, .int .i64 hi] 24) := by have := blk_new ((w1.alloc (.cells #[.bool s, .int .i64 t] 45))) (.cells #[.int .i64 lo, .int .i64 hi] 24); simpa using this
      have hP2 := blk_old hP1 (.cells #[.int .i64 lo, .int .i64 hi] 24)
      have hB2 := hB1.alloc hB1.size (.cells #[.int .i64 lo, .int .i64 hi] 24)
      have hO2 := hO1.next (bel1 _ (.cells #[.int .i64 lo, .int .i64 hi] 24))
      have zBQ := hB1.size
      obtain ⟨cP2_0, cP2_1, fP2_0, fP2_1, zP2⟩ := blk2 hP2
      obtain ⟨cQ2_0, cQ2_1, fQ2_0, fQ2_1, zQ2⟩ := blk2 hQ2
      go_wp2_with fail
      refine (iPa_is A cp xs _ HM.out hO2.row (by omega) HL.out HR.out HU.out).mono ?_; rintro e' w3 ⟨V, cv, rfl, hV3, hw3⟩
      have hP3 := blk_next hP2 hw3
      have hQ3 := blk_next hQ2 hw3
      have hO3 := hO2.next hw3
      have hB3 := bel_next hB2 hw3
      have hV3 := hV3.mono (base' := w.heap.size) hB2.size
      rw [HQ.out]
      have zPR := blk_lt hP3
      have zQR := blk_lt hQ3
      have hR4 : (w3.alloc (.cells #[.bool r, .int .i64 u] 45)).heap[w3.heap.size]? = some (.cells #[.bool r, .int .i64 u] 45) := by have := blk_new (w3) (.cells #[.bool r, .int .i64 u] 45); simpa using this
      have hP4 := blk_old hP3 (.cells #[.bool r, .int .i64 u] 45)
      have hQ4 := blk_old hQ3 (.cells #[.bool r, .int .i64 u] 45)
      have hB4 := hB3.alloc hB3.size (.cells #[.bool r, .int .i64 u] 45)
      have hO4 := hO3.next (bel1 _ (.cells #[.bool r, .int .i64 u] 45))
      have hV4 := hV3.next (bel1 _ (.cells #[.bool r, .int .i64 u] 45))
      have zBR := hB3.size
      obtain ⟨cP4_0, cP4_1, fP4_0, fP4_1, zP4⟩ := blk2 hP4
      obtain ⟨cQ4_0, cQ4_1, fQ4_0, fQ4_1, zQ4⟩ := blk2 hQ4
      obtain ⟨cR4_0, cR4_1, fR4_0, fR4_1, zR4⟩ := blk2 hR4
      go_wp2_with fail
      refine (sPa_is A cp xs _ HM.out hO4.row (by omega) HL.out HR.out HU.out).mono ?_; rintro e' w5 ⟨U, cu, rfl, hU5, hw5⟩
      have hP5 := blk_next hP4 hw5
      have hQ5 := blk_next hQ4 hw5
      have hR5 := blk_next hR4 hw5
      have hO5 := hO4.next hw5
      have hV5 := hV4.next hw5
      have hB5 := bel_next hB4 hw5
      have hU5 := hU5.mono (base' := w.heap.size) hB4.size
      rw [HQ.out]
      have zPK := blk_lt hP5
      have zQK := blk_lt hQ5
      have zRK := blk_lt hR5
      have hK6 : (w5.alloc (.cells #[.bool r, .int .i64 u] 45)).heap[w5.heap.size]? = some (.cells #[.bool r, .int .i64 u] 45) := by have := blk_new (w5) (.cells #[.bool r, .int .i64 u] 45); simpa using this
      have hP6 := blk_old hP5 (.cells #[.bool r, .int .i64 u] 45)
      have hQ6 := blk_old hQ5 (.cells #[.bool r, .int .i64 u] 45)
      have hR6 := blk_old hR5 (.cells #[.bool r, .int .i64 u] 45)
      have hB6 := hB5.alloc hB5.size (.cells #[.bool r, .int .i64 u] 45)
      have hO6 := hO5.next (bel1 _ (.cells #[.bool r, .int .i64 u] 45))
      have hV6 := hV5.next (bel1 _ (.cells #[.bool r, .int .i64 u] 45))
      have hU6 := hU5.next (bel1 _ (.cells #[.bool r, .int .i64 u] 45))
      have zBK := hB5.size
      obtain ⟨cP6_0, cP6_1, fP6_0, fP6_1, zP6⟩ := blk2 hP6
      obtain ⟨cQ6_0, cQ6_1, fQ6_0, fQ6_1, zQ6⟩ := blk2 hQ6
      obtain ⟨cR6_0, cR6_1, fR6_0, fR6_1, zR6⟩ := blk2 hR6
      obtain ⟨cK6_0, cK6_1, fK6_0, fK6_1, zK6⟩ := blk2 hK6
      go_wp2_with fail
      refine (sameBools_is V U cv cu l HQ.out hV6.row hU6.row (by omega)).mono ?_; rintro e' w7 ⟨rfl, hw7⟩
      have hP7 := blk_next hP6 hw7
      have hQ7 := blk_next hQ6 hw7
      have hR7 := blk_next hR6 hw7
      have hK7 := blk_next hK6 hw7
      have hO7 := hO6.next hw7
      have hV7 := hV6.next hw7
      have hU7 := hU6.next hw7
      have hB7 := bel_next hB6 hw7
      obtain ⟨cP7_0, cP7_1, fP7_0, fP7_1, zP7⟩ := blk2 hP7
      obtain ⟨cQ7_0, cQ7_1, fQ7_0, fQ7_1, zQ7⟩ := blk2 hQ7
      obtain ⟨cR7_0, cR7_1, fR7_0, fR7_1, zR7⟩ := blk2 hR7
      obtain ⟨cK7_0, cK7_1, fK7_0, fK7_1, zK7⟩ := blk2 hK7
      go_wp2_with fail
      refine (sBl_is _ HT.out).mono ?_; rintro e' w8 ⟨rfl, hw8⟩
      have hP8 := blk_next hP7 hw8
      have hQ8 := blk_next hQ7 hw8
      have hR8 := blk_next hR7 hw8
      have hK8 := blk_next hK7 hw8
      have hO8 := hO7.next hw8
      have hV8 := hV7.next hw8
      have hB8 := bel_next hB7 hw8
      obtain ⟨cP8_0, cP8_1, fP8_0, fP8_1, zP8⟩ := blk2 hP8
      obtain ⟨cQ8_0, cQ8_1, fQ8_0, fQ8_1, zQ8⟩ := blk2 hQ8
      obtain ⟨cR8_0, cR8_1, fR8_0, fR8_1, zR8⟩ := blk2 hR8
      obtain ⟨cK8_0, cK8_1, fK8_0, fK8_1, zK8⟩ := blk2 hK8
      go_wp2_with fail
      refine (sBd_is _ HB.out).mono ?_; rintro e' w9 ⟨rfl, hw9⟩
      have hP9 := blk_next hP8 hw9
      have hQ9 := blk_next hQ8 hw9
      have hR9 := blk_next hR8 hw9
      have hK9 := blk_next hK8 hw9
      have hO9 := hO8.next hw9
      have hV9 := hV8.next hw9
      have hB9 := bel_next hB8 hw9
      obtain ⟨cP9_0, cP9_1, fP9_0, fP9_1, zP9⟩ := blk2 hP9
      obtain ⟨cQ9_0, cQ9_1, fQ9_0, fQ9_1, zQ9⟩ := blk2 hQ9
      obtain ⟨cR9_0, cR9_1, fR9_0, fR9_1, zR9⟩ := blk2 hR9
      obtain ⟨cK9_0, cK9_1, fK9_0, fK9_1, zK9⟩ := blk2 hK9
      go_wp2_with fail
      refine (sLt_is A cp xs _ HM.out hO9.row (by omega) HV.out).mono ?_; rintro e' w10 ⟨rfl, hw10⟩
      have hP10 := blk_next hP9 hw10
      have hQ10 := blk_next hQ9 hw10
      have hR10 := blk_next hR9 hw10
      have hK10 := blk_next hK9 hw10
      have hO10 := hO9.next hw10
      have hV10 := hV9.next hw10
      have hB10 := bel_next hB9 hw10
      obtain ⟨cP10_0, cP10_1, fP10_0, fP10_1, zP10⟩ := blk2 hP10
      obtain ⟨cQ10_0, cQ10_1, fQ10_0, fQ10_1, zQ10⟩ := blk2 hQ10
      obtain ⟨cR10_0, cR10_1, fR10_0, fR10_1, zR10⟩ := blk2 hR10
      obtain ⟨cK10_0, cK10_1, fK10_0, fK10_1, zK10⟩ := blk2 hK10
      go_wp2_with fail
      go_loopw [11, 12, 13] (fun bv av iv wr => ∃ (k : Nat) (c : Bool) (a : Int), iv = .int .i64 k ∧ k ≤ m ∧ bv = .bool c ∧ av = .int .i64 a ∧ Hid (paS lo hi p s t (xs.take k) = c) ∧ (-1 ≤ a ∧ a < k) ∧ Hid (0 ≤ a → paT lo hi p s t (xs.take k) ≤ k - 1 - a) ∧ SOwn encNum wr w.heap.size 3 A cp xs ∧ SOwn encBool wr w.heap.size 4 V cv l ∧ wr.heap[w1.heap.size]? = some (.cells #[.bool s, .int .i64 t] 45) ∧ wr.heap[w1.heap.size + 1]? = some (.cells #[.int .i64 lo, .int .i64 hi] 24) ∧ wr.heap[w3.heap.size]? = some (.cells #[.bool r, .int .i64 u] 45) ∧ Below w.heap.size w wr) (fun _ _ iv _ => (m - intOf iv).toNat)
      case atStart => exact ⟨0, s, -1, rfl, by omega, rfl, rfl, (by show _ = _; rfl), by omega, Lib.hid (fun h => by omega), hO10.mono (by have := hB0.size; omega), hV10, hP10, hQ10, hR10, hB10⟩
      case round =>
        clear hO10 hV10 hP10 hQ10 hR10 hK10
        obtain ⟨k, c, a, rfl, k1, rfl, rfl, HC, ⟨a0, a1⟩, HA, hO, hV, hP, hQ, hR, hB⟩ := hrel
        by_cases hlt : k < m
        · have hk : k < xs.length := by rw [HM.out]; exact hlt
          have hk9 : k < l.length := by rw [HQ.out]; exact hlt
          have hki : (k : Int) < (m : Int) := by omega
          obtain ⟨gv, rfl, hgb, hgl⟩ := hV.at_ hk9
          have v0 := ownBool hV hk9
          have hat : l[k] = paS lo hi p s t (xs.take (k + 1)) := by have h8 := HPR.out; subst h8; exact paR_at hk hk9
          have hsi := fun h => pa_since (lo := lo) (hi := hi) (p := p) (s := s) hk tt0 tt1 (at_ := a) (HA.out h)
          have hfi := pa_first (lo := lo) (hi := hi) (p := p) (s := s) hk tt0 tt1
          rw [hat] at v0
          rw [HC.out] at hsi hfi
          obtain ⟨d, hd⟩ : ∃ d, paS lo hi p s t (xs.take (k + 1)) = d := ⟨_, rfl⟩
          rw [hd] at v0 hsi hfi
          have HD := Lib.hid hd
          have HSI := Lib.hid hsi
          have HFI := Lib.hid hfi
          clear hd hsi hfi hat HA
          cases c <;> cases d
          · have HA2 : Hid (0 ≤ a → paT lo hi p s t (xs.take (k + 1)) ≤ ((k + 1 : Nat) : Int) - 1 - a) := Lib.hid (fun h => by have := (HSI.out h).2 rfl; push_cast; omega)
            clear HSI HFI
            go_wp2_with fail
            go_roundw
            case rel => exact ⟨k + 1, false, a, by go_num, by omega, rfl, rfl, HD, ⟨a0, by push_cast; omega⟩, HA2, hO, hV, hP, hQ, hR, hB⟩
            case measure => simp [intOf]; omega
          · by_cases ha : 0 ≤ a
            · obtain ⟨hp9, hz9⟩ := (HSI.out ha).1 (by decide)
              have hp8 : ¬ (k : Int) - a ≤ p := by omega
              have hz : paT lo hi p s t (xs.take (k + 1)) = 0 := hz9
              have HA2 : Hid (0 ≤ (k : Int) → paT lo hi p s t (xs.take (k + 1)) ≤ ((k + 1 : Nat) : Int) - 1 - (k : Int)) := Lib.hid (fun _ => by rw [hz]; push_cast; omega)
              clear hz hz9 HSI HFI
              go_wp2_with fail
              go_roundw
              case rel => exact ⟨k + 1, true, k, by go_num, by omega, rfl, rfl, HD, ⟨by omega, by push_cast; omega⟩, HA2, hO, hV, hP, hQ, hR, hB⟩
              case measure => simp [intOf]; omega
            · have hz : paT lo hi p s t (xs.take (k + 1)) = 0 := HFI.out (by decide)
              have HA2 : Hid (0 ≤ (k : Int) → paT lo hi p s t (xs.take (k + 1)) ≤ ((k + 1 : Nat) : Int) - 1 - (k : Int)) := Lib.hid (fun _ => by rw [hz]; push_cast; omega)
              clear hz HSI HFI
              go_wp2_with fail
              go_roundw
              case rel => exact ⟨k + 1, true, k, by go_num, by omega, rfl, rfl, HD, ⟨by omega, by push_cast; omega⟩, HA2, hO, hV, hP, hQ, hR, hB⟩
              case measure => simp [intOf]; omega
          · by_cases ha : 0 ≤ a
            · obtain ⟨hp9, hz9⟩ := (HSI.out ha).1 (by decide)
              have hp8 : ¬ (k : Int) - a ≤ p := by omega
              have hz : paT lo hi p s t (xs.take (k + 1)) = 0 := hz9
              have HA2 : Hid (0 ≤ (k : Int) → paT lo hi p s t (xs.take (k + 1)) ≤ ((k + 1 : Nat) : Int) - 1 - (k : Int)) := Lib.hid (fun _ => by rw [hz]; push_cast; omega)
              clear hz hz9 HSI HFI
              go_wp2_with fail
              go_roundw
              case rel => exact ⟨k + 1, false, k, by go_num, by omega, rfl, rfl, HD, ⟨by omega, by push_cast; omega⟩, HA2, hO, hV, hP, hQ, hR, hB⟩
              case measure => simp [intOf]; omega
            · have hz : paT lo hi p s t (xs.take (k + 1)) = 0 := HFI.out (by decide)
              have HA2 : Hid (0 ≤ (k : Int) → paT lo hi p s t (xs.take (k + 1)) ≤ ((k + 1 : Nat) : Int) - 1 - (k : Int)) := Lib.hid (fun _ => by rw [hz]; push_cast; omega)
              clear hz HSI HFI
              go_wp2_with fail
              go_roundw
              case rel => exact ⟨k + 1, false, k, by go_num, by omega, rfl, rfl, HD, ⟨by omega, by push_cast; omega⟩, HA2, hO, hV, hP, hQ, hR, hB⟩
              case measure => simp [intOf]; omega
          · have HA2 : Hid (0 ≤ a → paT lo hi p s t (xs.take (k + 1)) ≤ ((k + 1 : Nat) : Int) - 1 - a) := Lib.hid (fun h => by have := (HSI.out h).2 rfl; push_cast; omega)
            clear HSI HFI
            go_wp2_with fail
            go_roundw
            case rel => exact ⟨k + 1, true, a, by go_num, by omega, rfl, rfl, HD, ⟨a0, by push_cast; omega⟩, HA2, hO, hV, hP, hQ, hR, hB⟩
            case measure => simp [intOf]; omega
        · obtain rfl : k = m := by omega
          have hki : ¬ (k : Int) < (k : Int) := by omega
          have hcr : c = r := by rw [← HC.out, ← HPS.out, List.take_of_length_le (by rw [HM.out]; omega)]
          subst hcr
          clear HA HC
          have hO100 := hO
          have hV100 := hV
          have hP100 := hP
          have hQ100 := hQ
          have hR100 := hR
          have hB100 := hB
          obtain ⟨cP100_0, cP100_1, fP100_0, fP100_1, zP100⟩ := blk2 hP100
          obtain ⟨cQ100_0, cQ100_1, fQ100_0, fQ100_1, zQ100⟩ := blk2 hQ100
          obtain ⟨cR100_0, cR100_1, fR100_0, fR100_1, zR100⟩ := blk2 hR100
          go_wp2_with fail
          refine (iPa_is A cp xs _ HM.out hO100.row (by omega) HL0.out HR0.out HU0.out).mono ?_; rintro e' w101 ⟨Y, cy, rfl, hY101, hw101⟩
          have hP101 := blk_next hP100 hw101
          have hQ101 := blk_next hQ100 hw101
          have hR101 := blk_next hR100 hw101
          have hO101 := hO100.next hw101
          have hV101 := hV100.next hw101
          have hB101 := bel_next hB100 hw101
          have hY101 := hY101.mono (base' := w.heap.size) hB100.size
          rw [HQ0.out]
          have zPF := blk_lt hP101
          have zQF := blk_lt hQ101
          have zRF := blk_lt hR101
          have hF102 : (w101.alloc (.cells #[.bool r0, .int .i64 u0] 45)).heap[w101.heap.size]? = some (.cells #[.bool r0, .int .i64 u0] 45) := by have := blk_new (w101) (.cells #[.bool r0, .int .i64 u0] 45); simpa using this
          have hP102 := blk_old hP101 (.cells #[.bool r0, .int .i64 u0] 45)
          have hQ102 := blk_old hQ101 (.cells #[.bool r0, .int .i64 u0] 45)
          have hR102 := blk_old hR101 (.cells #[.bool r0, .int .i64 u0] 45)
          have hB102 := hB101.alloc hB101.size (.cells #[.bool r0, .int .i64 u0] 45)
          have hO102 := hO101.next (bel1 _ (.cells #[.bool r0, .int .i64 u0] 45))
          have hV102 := hV101.next (bel1 _ (.cells #[.bool r0, .int .i64 u0] 45))
          have hY102 := hY101.next (bel1 _ (.cells #[.bool r0, .int .i64 u0] 45))
          have zBF := hB101.size
          obtain ⟨cP102_0, cP102_1, fP102_0, fP102_1, zP102⟩ := blk2 hP102
          obtain ⟨cQ102_0, cQ102_1, fQ102_0, fQ102_1, zQ102⟩ := blk2 hQ102
          obtain ⟨cR102_0, cR102_1, fR102_0, fR102_1, zR102⟩ := blk2 hR102
          obtain ⟨cF102_0, cF102_1, fF102_0, fF102_1, zF102⟩ := blk2 hF102
          go_wp2_with fail
          refine (iBr_is A cp xs _ _ HM.out hO102.row (by omega) HBR.out).mono ?_; rintro e' w103 ⟨X, cx, rfl, hX103, hw103⟩
          have hP103 := blk_next hP102 hw103
          have hQ103 := blk_next hQ102 hw103
          have hR103 := blk_next hR102 hw103
          have hF103 := blk_next hF102 hw103
          have hO103 := hO102.next hw103
          have hV103 := hV102.next hw103
          have hY103 := hY102.next hw103
          have hB103 := bel_next hB102 hw103
          have hX103 := hX103.mono (base' := w.heap.size) hB102.size
          rw [HQ0.out]
          go_wp2_with fail
          refine (sameBools_is Y X cy cx l0_ HQ0.out hY103.row hX103.row (by omega)).mono ?_; rintro e' w104 ⟨rfl, hw104⟩
          have hP104 := blk_next hP103 hw104
          have hQ104 := blk_next hQ103 hw104
          have hR104 := blk_next hR103 hw104
          have hF104 := blk_next hF103 hw104
          have hO104 := hO103.next hw104
          have hV104 := hV103.next hw104
          have hY104 := hY103.next hw104
          have hX104 := hX103.next hw104
          have hB104 := bel_next hB103 hw104
          obtain ⟨cP104_0, cP104_1, fP104_0, fP104_1, zP104⟩ := blk2 hP104
          obtain ⟨cQ104_0, cQ104_1, fQ104_0, fQ104_1, zQ104⟩ := blk2 hQ104
          obtain ⟨cR104_0, cR104_1, fR104_0, fR104_1, zR104⟩ := blk2 hR104
          go_wp2
          go_ret
          exact ⟨rfl, by first | exact hB104 | exact hB104.drew⟩

set_option maxRecDepth 100000 in
theorem lifted (os : Os) (started : os.Started) (H : Type) (enc : TypeId × Value → H) :
    ReturnsInHanded {} Try.checked os 11 .any (Rows.fnPauseRunSpec.pre6 enc Try.prog Try.f11 Rows.fnPauseRunRow.domain false) (Rows.fnPauseRunSpec.post enc Try.prog Try.f11 false true false false) := by
  refine returnsInHanded_of_change (C := Try.checked) own started (by kernel_rfl) Try.func11
    (ChangeSpec.witness6 (enc := enc) (C := Try.checked) false ⟨#[], #[.slice none 0 0], []⟩ 8 (by kernel_rfl) (by kernel_rfl) (by kernel_rfl) (by kernel_rfl)) ?_
  intro W base args ds gs before hval0 hW hcnd _
  have hval : ∀ (j : Nat) t v, Try.f11.params[j]? = some t → args[j]? = some v → Value.okWide Try.prog W .any base t v := hval0
  have hW' := hW
  obtain ⟨p, q, hA0, hV, rfl, hfz, hnd⟩ := hW
  have hA : DataW.TrodAll enc Try.prog W 0 (fun _ => true) true Try.f11.params.toList args.toList ds p := hA0
  rw [Try.params11] at hA hval
  obtain ⟨v0, vs0, d0, ds0, p0, q0, hargs, rfl, rfl, h0, r0⟩ := trodAll_cons hA
  obtain ⟨rfl, rfl, rfl⟩ := trodAll_nil r0
  obtain rfl : args = #[v0] := by cases args; simp_all
  obtain ⟨rfl, rfl⟩ := trodVars_none hV
  have k0 := h0
  have lt0 : ∀ x ∈ p0, x.block < W.heap.size := by obtain ⟨m, hm⟩ := k0; exact DataW.trod_lt m _ _ _ hm
  obtain ⟨a0, len0, cap0, rfl⟩ := okWide_slice Try.underlying22 (hval 0 22 v0 rfl rfl)
  have w0 : CodeOk W a0 len0 cap0 := by
    obtain ⟨fuel, hf⟩ := h0
    rcases open_ints Try.underlying22 Try.underlying5 (by kernel_rfl) hf with ⟨hcs, _⟩ | ⟨x, l, c, zs, hcs, _, hl, hm, hz, _, hcell, hwz⟩
    · simp [Value.cells] at hcs
      obtain ⟨rfl, rfl, rfl⟩ := hcs
      exact code_nil W
    · simp [Value.cells] at hcs
      obtain ⟨rfl, rfl, rfl⟩ := hcs
      exact code_ok hl hm (by simp at hz; omega) hcell hwz
  clear hA0 hval0
  refine (walk W a0 len0 cap0 w0).mono fun e W' ⟨he, bel⟩ => ?_
  subst he
  exact ⟨_, rfl, _, _, _, [], _, [], hW', trodAll_mk1 (shut_bool Try.underlying4 _), (trodAll_cons_mk (Below.trod laidOut (by kernel_rfl) (of_decide_eq_true (by kernel_rfl)) k0 bel lt0) trodAll_mk0), rfl, bel.frame _, fun h => by cases h⟩

theorem over : Rows.fnPauseRunRow.holds Try.pinned (OpenSpec.ofChange Rows.fnPauseRunSpec) :=
  OpenClaim.holds_of_wide 11 Try.f11 rfl rfl rfl rfl rfl rfl rfl ⟨rfl, rfl, rfl, rfl, rfl⟩ rfl rfl rfl rfl rfl (by kernel_rfl) Try.func11 (by kernel_rfl)
    (of_decide_eq_true (by kernel_rfl)) (by unfold Func.isWrapper; first | (rw [if_pos (by decide +kernel)]; kernel_rfl) | (rw [if_neg (by decide +kernel)]; exact ⟨rfl, rfl⟩))
    (fun os started H enc _ => lifted os started H enc)

/-- The statement. -/
theorem proved : Rows.FnPauseRunSaid :=
  over
#print axioms proved
end Go.Proofs.Ytpmbjdfecbmgoaa.fnPauseRun
