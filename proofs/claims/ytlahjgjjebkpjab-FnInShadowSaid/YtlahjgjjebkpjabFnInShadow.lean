/- FnInShadow: whatever the input, the law returns true, and its arguments read as they did. No conditions beyond those of the statement's row. -/
import Derived.Test.YtlahjgjjebkpjabDd
import Derived.Test.YtlahjgjjebkpjabVa
import Derived.Test.YtlahjgjjebkpjabVd
import Derived.Test.YtlahjgjjebkpjabVt
namespace Go.Proofs.Ytlahjgjjebkpjab.fnInShadow
open Go.Proofs.Ytlahjgjjebkpjab
open Go.ChangeShapes Go.WideShapes Go.ChangeAt Go.RowKit Go.Joins
set_option linter.unusedVariables false
set_option linter.unusedSimpArgs false
set_option linter.unnecessarySimpa false

theorem own : ownKnob Try.prog.godebug = none := by kernel_rfl
theorem laidOut : laidOutB Try.prog = true := by kernel_rfl

set_option maxRecDepth 100000 in
set_option maxHeartbeats 4000000 in
theorem walk (w : World) (a0 : Option Addr) (len0 cap0 : Nat) (w0 : CodeOk w a0 len0 cap0) :
    Calls Try.prog 3 #[.slice a0 len0 cap0] w fun e w' => e = .returned (.bool true) ∧ Below w.heap.size w w' := by
  by_cases hl : 1048576 < len0
  · have w0' := w0.2.1
    unfold maxLen at w0'
    clear w0
    go_enter Try.func3, Try.ntmps3
    go_wp2
    go_ret
    exact ⟨rfl, Below.refl _ _⟩
  · have w0' := w0.2.1
    unfold maxLen at w0'
    have hle := w0.1
    have HW := Lib.hid w0
    clear w0
    go_enter Try.func3, Try.ntmps3
    go_wp2_with fail
    refine (drInShadow_any _ _ _ _ HW.out).mono ?_; rintro e w1 ⟨p0, p1, b0, b1, b2, b3, b4, r0, r1, r2, rfl, ⟨p0_0, p0_1⟩, ⟨p1_0, p1_1⟩, ⟨b0_0, b0_1⟩, ⟨b1_0, b1_1⟩, ⟨b2_0, b2_1⟩, ⟨b3_0, b3_1⟩, ⟨b4_0, b4_1⟩, ⟨r0_0, r0_1⟩, ⟨r1_0, r1_1⟩, ⟨r2_0, r2_1⟩, hB0⟩
    cases vp : plB p0 p1
    · have HS : Hid (shB p0 p1 b0 b1 b2 b3 b4 r0 r1 r2 = false) := by show _ = _; exact shB_f1 vp
      have HVP := Lib.hid vp
      clear vp
      have hP1 : (w1.alloc (.cells #[.int .i64 p0, .int .i64 p1] 24)).heap[w1.heap.size]? = some (.cells #[.int .i64 p0, .int .i64 p1] 24) := by have := blk_new w1 (.cells #[.int .i64 p0, .int .i64 p1] 24); simpa using this
      have hB1 := hB0.alloc hB0.size (.cells #[.int .i64 p0, .int .i64 p1] 24)
      have zBP := hB0.size
      have zPQ := blk_lt hP1
      have hQ2 : ((w1.alloc (.cells #[.int .i64 p0, .int .i64 p1] 24)).alloc (.cells #[.int .i64 b0, .int .i64 b1, .int .i64 b2, .int .i64 b3, .int .i64 b4] 26)).heap[w1.heap.size + 1]? = some (.cells #[.int .i64 b0, .int .i64 b1, .int .i64 b2, .int .i64 b3, .int .i64 b4] 26) := by have := blk_new (w1.alloc (.cells #[.int .i64 p0, .int .i64 p1] 24)) (.cells #[.int .i64 b0, .int .i64 b1, .int .i64 b2, .int .i64 b3, .int .i64 b4] 26); simpa using this
      have hP2 := blk_old hP1 (.cells #[.int .i64 b0, .int .i64 b1, .int .i64 b2, .int .i64 b3, .int .i64 b4] 26)
      have hB2 := hB1.alloc hB1.size (.cells #[.int .i64 b0, .int .i64 b1, .int .i64 b2, .int .i64 b3, .int .i64 b4] 26)
      have zBQ := hB1.size
      have zPR := blk_lt hP2
      have zQR := blk_lt hQ2
      have hR3 : (((w1.alloc (.cells #[.int .i64 p0, .int .i64 p1] 24)).alloc (.cells #[.int .i64 b0, .int .i64 b1, .int .i64 b2, .int .i64 b3, .int .i64 b4] 26)).alloc (.cells #[.int .i64 r0, .int .i64 r1, .int .i64 r2] 28)).heap[w1.heap.size + 1 + 1]? = some (.cells #[.int .i64 r0, .int .i64 r1, .int .i64 r2] 28) := by have := blk_new ((w1.alloc (.cells #[.int .i64 p0, .int .i64 p1] 24)).alloc (.cells #[.int .i64 b0, .int .i64 b1, .int .i64 b2, .int .i64 b3, .int .i64 b4] 26)) (.cells #[.int .i64 r0, .int .i64 r1, .int .i64 r2] 28); simpa using this
      have hP3 := blk_old hP2 (.cells #[.int .i64 r0, .int .i64 r1, .int .i64 r2] 28)
      have hQ3 := blk_old hQ2 (.cells #[.int .i64 r0, .int .i64 r1, .int .i64 r2] 28)
      have hB3 := hB2.alloc hB2.size (.cells #[.int .i64 r0, .int .i64 r1, .int .i64 r2] 28)
      have zBR := hB2.size
      obtain ⟨cP3_0, cP3_1, fP3_0, fP3_1, zP3⟩ := blk2 hP3
      obtain ⟨cQ3_0, cQ3_1, cQ3_2, cQ3_3, cQ3_4, fQ3_0, fQ3_1, fQ3_2, fQ3_3, fQ3_4, zQ3⟩ := blk5 hQ3
      obtain ⟨cR3_0, cR3_1, cR3_2, fR3_0, fR3_1, fR3_2, zR3⟩ := blk3 hR3
      go_wp2_with fail
      refine (iSh_is _ HS.out).mono ?_; rintro e' w4 ⟨rfl, hw4⟩
      have hP4 := blk_next hP3 hw4
      have hQ4 := blk_next hQ3 hw4
      have hR4 := blk_next hR3 hw4
      have hB4 := bel_next hB3 hw4
      obtain ⟨cP4_0, cP4_1, fP4_0, fP4_1, zP4⟩ := blk2 hP4
      obtain ⟨cQ4_0, cQ4_1, cQ4_2, cQ4_3, cQ4_4, fQ4_0, fQ4_1, fQ4_2, fQ4_3, fQ4_4, zQ4⟩ := blk5 hQ4
      obtain ⟨cR4_0, cR4_1, cR4_2, fR4_0, fR4_1, fR4_2, zR4⟩ := blk3 hR4
      go_wp2_with fail
      refine (sSh_is _ HS.out).mono ?_; rintro e' w5 ⟨rfl, hw5⟩
      have hP5 := blk_next hP4 hw5
      have hQ5 := blk_next hQ4 hw5
      have hR5 := blk_next hR4 hw5
      have hB5 := bel_next hB4 hw5
      obtain ⟨cP5_0, cP5_1, fP5_0, fP5_1, zP5⟩ := blk2 hP5
      go_wp2_with fail
      refine (sPV_is _ HVP.out).mono ?_; rintro e' w6 ⟨rfl, hw6⟩
      have hP6 := blk_next hP5 hw6
      have hQ6 := blk_next hQ5 hw6
      have hR6 := blk_next hR5 hw6
      have hB6 := bel_next hB5 hw6
      go_wp2_with fail
      refine (alive_bel _).mono ?_; rintro e' w7 ⟨rfl, hw7⟩
      have hP7 := blk_next hP6 hw7
      have hQ7 := blk_next hQ6 hw7
      have hR7 := blk_next hR6 hw7
      have hB7 := bel_next hB6 hw7
      go_wp2
      go_ret
      exact ⟨rfl, by first | exact hB7 | exact hB7.drew⟩
    · skip
      cases vb : blB b0 b1 b2 b3 b4
      · have HS : Hid (shB p0 p1 b0 b1 b2 b3 b4 r0 r1 r2 = false) := by show _ = _; exact shB_f2 vb
        have HVP := Lib.hid vp
        have HVB := Lib.hid vb
        clear vp vb
        have hP1 : (w1.alloc (.cells #[.int .i64 p0, .int .i64 p1] 24)).heap[w1.heap.size]? = some (.cells #[.int .i64 p0, .int .i64 p1] 24) := by have := blk_new w1 (.cells #[.int .i64 p0, .int .i64 p1] 24); simpa using this
        have hB1 := hB0.alloc hB0.size (.cells #[.int .i64 p0, .int .i64 p1] 24)
        have zBP := hB0.size
        have zPQ := blk_lt hP1
        have hQ2 : ((w1.alloc (.cells #[.int .i64 p0, .int .i64 p1] 24)).alloc (.cells #[.int .i64 b0, .int .i64 b1, .int .i64 b2, .int .i64 b3, .int .i64 b4] 26)).heap[w1.heap.size + 1]? = some (.cells #[.int .i64 b0, .int .i64 b1, .int .i64 b2, .int .i64 b3, .int .i64 b4] 26) := by have := blk_new (w1.alloc (.cells #[.int .i64 p0, .int .i64 p1] 24)) (.cells #[.int .i64 b0, .int .i64 b1, .int .i64 b2, .int .i64 b3, .int .i64 b4] 26); simpa using this
        have hP2 := blk_old hP1 (.cells #[.int .i64 b0, .int .i64 b1, .int .i64 b2, .int .i64 b3, .int .i64 b4] 26)
        have hB2 := hB1.alloc hB1.size (.cells #[.int .i64 b0, .int .i64 b1, .int .i64 b2, .int .i64 b3, .int .i64 b4] 26)
        have zBQ := hB1.size
        have zPR := blk_lt hP2
        have zQR := blk_lt hQ2
        have hR3 : (((w1.alloc (.cells #[.int .i64 p0, .int .i64 p1] 24)).alloc (.cells #[.int .i64 b0, .int .i64 b1, .int .i64 b2, .int .i64 b3, .int .i64 b4] 26)).alloc (.cells #[.int .i64 r0, .int .i64 r1, .int .i64 r2] 28)).heap[w1.heap.size + 1 + 1]? = some (.cells #[.int .i64 r0, .int .i64 r1, .int .i64 r2] 28) := by have := blk_new ((w1.alloc (.cells #[.int .i64 p0, .int .i64 p1] 24)).alloc (.cells #[.int .i64 b0, .int .i64 b1, .int .i64 b2, .int .i64 b3, .int .i64 b4] 26)) (.cells #[.int .i64 r0, .int .i64 r1, .int .i64 r2] 28); simpa using this
        have hP3 := blk_old hP2 (.cells #[.int .i64 r0, .int .i64 r1, .int .i64 r2] 28)
        have hQ3 := blk_old hQ2 (.cells #[.int .i64 r0, .int .i64 r1, .int .i64 r2] 28)
        have hB3 := hB2.alloc hB2.size (.cells #[.int .i64 r0, .int .i64 r1, .int .i64 r2] 28)
        have zBR := hB2.size
        obtain ⟨cP3_0, cP3_1, fP3_0, fP3_1, zP3⟩ := blk2 hP3
        obtain ⟨cQ3_0, cQ3_1, cQ3_2, cQ3_3, cQ3_4, fQ3_0, fQ3_1, fQ3_2, fQ3_3, fQ3_4, zQ3⟩ := blk5 hQ3
        obtain ⟨cR3_0, cR3_1, cR3_2, fR3_0, fR3_1, fR3_2, zR3⟩ := blk3 hR3
        go_wp2_with fail
        refine (iSh_is _ HS.out).mono ?_; rintro e' w4 ⟨rfl, hw4⟩
        have hP4 := blk_next hP3 hw4
        have hQ4 := blk_next hQ3 hw4
        have hR4 := blk_next hR3 hw4
        have hB4 := bel_next hB3 hw4
        obtain ⟨cP4_0, cP4_1, fP4_0, fP4_1, zP4⟩ := blk2 hP4
        obtain ⟨cQ4_0, cQ4_1, cQ4_2, cQ4_3, cQ4_4, fQ4_0, fQ4_1, fQ4_2, fQ4_3, fQ4_4, zQ4⟩ := blk5 hQ4
        obtain ⟨cR4_0, cR4_1, cR4_2, fR4_0, fR4_1, fR4_2, zR4⟩ := blk3 hR4
        go_wp2_with fail
        refine (sSh_is _ HS.out).mono ?_; rintro e' w5 ⟨rfl, hw5⟩
        have hP5 := blk_next hP4 hw5
        have hQ5 := blk_next hQ4 hw5
        have hR5 := blk_next hR4 hw5
        have hB5 := bel_next hB4 hw5
        obtain ⟨cP5_0, cP5_1, fP5_0, fP5_1, zP5⟩ := blk2 hP5
        go_wp2_with fail
        refine (sPV_is _ HVP.out).mono ?_; rintro e' w6 ⟨rfl, hw6⟩
        have hP6 := blk_next hP5 hw6
        have hQ6 := blk_next hQ5 hw6
        have hR6 := blk_next hR5 hw6
        have hB6 := bel_next hB5 hw6
        obtain ⟨cQ6_0, cQ6_1, cQ6_2, cQ6_3, cQ6_4, fQ6_0, fQ6_1, fQ6_2, fQ6_3, fQ6_4, zQ6⟩ := blk5 hQ6
        go_wp2_with fail
        refine (sBV_is _ HVB.out).mono ?_; rintro e' w7 ⟨rfl, hw7⟩
        have hP7 := blk_next hP6 hw7
        have hQ7 := blk_next hQ6 hw7
        have hR7 := blk_next hR6 hw7
        have hB7 := bel_next hB6 hw7
        go_wp2_with fail
        refine (alive_bel _).mono ?_; rintro e' w8 ⟨rfl, hw8⟩
        have hP8 := blk_next hP7 hw8
        have hQ8 := blk_next hQ7 hw8
        have hR8 := blk_next hR7 hw8
        have hB8 := bel_next hB7 hw8
        go_wp2
        go_ret
        exact ⟨rfl, by first | exact hB8 | exact hB8.drew⟩
      · skip
        cases vr : ryB r0 r1 r2
        · have HS : Hid (shB p0 p1 b0 b1 b2 b3 b4 r0 r1 r2 = false) := by show _ = _; exact shB_f3 vr
          have HVP := Lib.hid vp
          have HVB := Lib.hid vb
          have HVR := Lib.hid vr
          clear vp vb vr
          have hP1 : (w1.alloc (.cells #[.int .i64 p0, .int .i64 p1] 24)).heap[w1.heap.size]? = some (.cells #[.int .i64 p0, .int .i64 p1] 24) := by have := blk_new w1 (.cells #[.int .i64 p0, .int .i64 p1] 24); simpa using this
          have hB1 := hB0.alloc hB0.size (.cells #[.int .i64 p0, .int .i64 p1] 24)
          have zBP := hB0.size
          have zPQ := blk_lt hP1
          have hQ2 : ((w1.alloc (.cells #[.int .i64 p0, .int .i64 p1] 24)).alloc (.cells #[.int .i64 b0, .int .i64 b1, .int .i64 b2, .int .i64 b3, .int .i64 b4] 26)).heap[w1.heap.size + 1]? = some (.cells #[.int .i64 b0, .int .i64 b1, .int .i64 b2, .int .i64 b3, .int .i64 b4] 26) := by have := blk_new (w1.alloc (.cells #[.int .i64 p0, .int .i64 p1] 24)) (.cells #[.int .i64 b0, .int .i64 b1, .int .i64 b2, .int .i64 b3, .int .i64 b4] 26); simpa using this
          have hP2 := blk_old hP1 (.cells #[.int .i64 b0, .int .i64 b1, .int .i64 b2, .int .i64 b3, .int .i64 b4] 26)
          have hB2 := hB1.alloc hB1.size (.cells #[.int .i64 b0, .int .i64 b1, .int .i64 b2, .int .i64 b3, .int .i64 b4] 26)
          have zBQ := hB1.size
          have zPR := blk_lt hP2
          have zQR := blk_lt hQ2
          have hR3 : (((w1.alloc (.cells #[.int .i64 p0, .int .i64 p1] 24)).alloc (.cells #[.int .i64 b0, .int .i64 b1, .int .i64 b2, .int .i64 b3, .int .i64 b4] 26)).alloc (.cells #[.int .i64 r0, .int .i64 r1, .int .i64 r2] 28)).heap[w1.heap.size + 1 + 1]? = some (.cells #[.int .i64 r0, .int .i64 r1, .int .i64 r2] 28) := by have := blk_new ((w1.alloc (.cells #[.int .i64 p0, .int .i64 p1] 24)).alloc (.cells #[.int .i64 b0, .int .i64 b1, .int .i64 b2, .int .i64 b3, .int .i64 b4] 26)) (.cells #[.int .i64 r0, .int .i64 r1, .int .i64 r2] 28); simpa using this
          have hP3 := blk_old hP2 (.cells #[.int .i64 r0, .int .i64 r1, .int .i64 r2] 28)
          have hQ3 := blk_old hQ2 (.cells #[.int .i64 r0, .int .i64 r1, .int .i64 r2] 28)
          have hB3 := hB2.alloc hB2.size (.cells #[.int .i64 r0, .int .i64 r1, .int .i64 r2] 28)
          have zBR := hB2.size
          obtain ⟨cP3_0, cP3_1, fP3_0, fP3_1, zP3⟩ := blk2 hP3
          obtain ⟨cQ3_0, cQ3_1, cQ3_2, cQ3_3, cQ3_4, fQ3_0, fQ3_1, fQ3_2, fQ3_3, fQ3_4, zQ3⟩ := blk5 hQ3
          obtain ⟨cR3_0, cR3_1, cR3_2, fR3_0, fR3_1, fR3_2, zR3⟩ := blk3 hR3
          go_wp2_with fail
          refine (iSh_is _ HS.out).mono ?_; rintro e' w4 ⟨rfl, hw4⟩
          have hP4 := blk_next hP3 hw4
          have hQ4 := blk_next hQ3 hw4
          have hR4 := blk_next hR3 hw4
          have hB4 := bel_next hB3 hw4
          obtain ⟨cP4_0, cP4_1, fP4_0, fP4_1, zP4⟩ := blk2 hP4
          obtain ⟨cQ4_0, cQ4_1, cQ4_2, cQ4_3, cQ4_4, fQ4_0, fQ4_1, fQ4_2, fQ4_3, fQ4_4, zQ4⟩ := blk5 hQ4
          obtain ⟨cR4_0, cR4_1, cR4_2, fR4_0, fR4_1, fR4_2, zR4⟩ := blk3 hR4
          go_wp2_with fail
          refine (sSh_is _ HS.out).mono ?_; rintro e' w5 ⟨rfl, hw5⟩
          have hP5 := blk_next hP4 hw5
          have hQ5 := blk_next hQ4 hw5
          have hR5 := blk_next hR4 hw5
          have hB5 := bel_next hB4 hw5
          obtain ⟨cP5_0, cP5_1, fP5_0, fP5_1, zP5⟩ := blk2 hP5
          go_wp2_with fail
          refine (sPV_is _ HVP.out).mono ?_; rintro e' w6 ⟨rfl, hw6⟩
          have hP6 := blk_next hP5 hw6
          have hQ6 := blk_next hQ5 hw6
          have hR6 := blk_next hR5 hw6
          have hB6 := bel_next hB5 hw6
          obtain ⟨cQ6_0, cQ6_1, cQ6_2, cQ6_3, cQ6_4, fQ6_0, fQ6_1, fQ6_2, fQ6_3, fQ6_4, zQ6⟩ := blk5 hQ6
          go_wp2_with fail
          refine (sBV_is _ HVB.out).mono ?_; rintro e' w7 ⟨rfl, hw7⟩
          have hP7 := blk_next hP6 hw7
          have hQ7 := blk_next hQ6 hw7
          have hR7 := blk_next hR6 hw7
          have hB7 := bel_next hB6 hw7
          obtain ⟨cR7_0, cR7_1, cR7_2, fR7_0, fR7_1, fR7_2, zR7⟩ := blk3 hR7
          go_wp2_with fail
          refine (sRV_is _ HVR.out).mono ?_; rintro e' w8 ⟨rfl, hw8⟩
          have hP8 := blk_next hP7 hw8
          have hQ8 := blk_next hQ7 hw8
          have hR8 := blk_next hR7 hw8
          have hB8 := bel_next hB7 hw8
          go_wp2_with fail
          refine (alive_bel _).mono ?_; rintro e' w9 ⟨rfl, hw9⟩
          have hP9 := blk_next hP8 hw9
          have hQ9 := blk_next hQ8 hw9
          have hR9 := blk_next hR8 hw9
          have hB9 := bel_next hB8 hw9
          go_wp2
          go_ret
          exact ⟨rfl, by first | exact hB9 | exact hB9.drew⟩
        · have bp := plB_iff.1 vp
          have bb := blB_iff.1 vb
          have br := ryB_iff.1 vr
          obtain ⟨s, hs⟩ : ∃ z, shB p0 p1 b0 b1 b2 b3 b4 r0 r1 r2 = z := ⟨_, rfl⟩
          have HS := Lib.hid hs
          obtain ⟨lv, hlv⟩ : ∃ z, ryB (2 * r0) (2 * r1) (2 * r2) = z := ⟨_, rfl⟩
          have HLV := Lib.hid hlv
          obtain ⟨y1, hy1⟩ : ∃ z, -p1 = z := ⟨_, rfl⟩
          have HY1 := Lib.hid hy1
          obtain ⟨z3, hz3⟩ : ∃ z, -b3 = z := ⟨_, rfl⟩
          have HZ3 := Lib.hid hz3
          obtain ⟨z2, hz2⟩ : ∃ z, -b2 = z := ⟨_, rfl⟩
          have HZ2 := Lib.hid hz2
          obtain ⟨q1, hq1⟩ : ∃ z, -r1 = z := ⟨_, rfl⟩
          have HQ1 := Lib.hid hq1
          obtain ⟨hv, hhv⟩ : ∃ z, blB b0 b1 b2 b3 (b4 + 1) = z := ⟨_, rfl⟩
          have HHV := Lib.hid hhv
          obtain ⟨uv, huv⟩ : ∃ z, ryB r0 r1 (r2 - 1) = z := ⟨_, rfl⟩
          have HUV := Lib.hid huv
          have HT : Hid (shB y1 p0 z3 z2 b0 b1 b4 q1 r0 r2 = s) := by show _ = _; rw [← hy1, ← hz3, ← hz2, ← hq1, sh_turn]; exact hs
          have hL : lv = true → shB p0 p1 b0 b1 b2 b3 b4 (2 * r0) (2 * r1) (2 * r2) = s := fun h => by rw [sh_long vr (by rw [hlv]; exact h)]; exact hs
          have hH : s = true → hv = true → shB p0 p1 b0 b1 b2 b3 (b4 + 1) r0 r1 r2 = true := fun h k => sh_high (by rw [hhv]; exact k) (by rw [hs]; exact h)
          have hU : s = true → uv = true → shB p0 p1 b0 b1 b2 b3 b4 r0 r1 (r2 - 1) = true := fun h k => sh_low (by rw [huv]; exact k) (by rw [hs]; exact h)
          have HVP := Lib.hid vp
          have HVB := Lib.hid vb
          have HVR := Lib.hid vr
          clear vp vb vr hs hlv hy1 hz3 hz2 hq1 hhv huv
          have HL := Lib.hid hL
          have HH := Lib.hid hH
          have HU := Lib.hid hU
          clear hL hH hU
          have hP1 : (w1.alloc (.cells #[.int .i64 p0, .int .i64 p1] 24)).heap[w1.heap.size]? = some (.cells #[.int .i64 p0, .int .i64 p1] 24) := by have := blk_new w1 (.cells #[.int .i64 p0, .int .i64 p1] 24); simpa using this
          have hB1 := hB0.alloc hB0.size (.cells #[.int .i64 p0, .int .i64 p1] 24)
          have zBP := hB0.size
          have zPQ := blk_lt hP1
          have hQ2 : ((w1.alloc (.cells #[.int .i64 p0, .int .i64 p1] 24)).alloc (.cells #[.int .i64 b0, .int .i64 b1, .int .i64 b2, .int .i64 b3, .int .i64 b4] 26)).heap[w1.heap.size + 1]? = some (.cells #[.int .i64 b0, .int .i64 b1, .int .i64 b2, .int .i64 b3, .int .i64 b4] 26) := by have := blk_new (w1.alloc (.cells #[.int .i64 p0, .int .i64 p1] 24)) (.cells #[.int .i64 b0, .int .i64 b1, .int .i64 b2, .int .i64 b3, .int .i64 b4] 26); simpa using this
          have hP2 := blk_old hP1 (.cells #[.int .i64 b0, .int .i64 b1, .int .i64 b2, .int .i64 b3, .int .i64 b4] 26)
          have hB2 := hB1.alloc hB1.size (.cells #[.int .i64 b0, .int .i64 b1, .int .i64 b2, .int .i64 b3, .int .i64 b4] 26)
          have zBQ := hB1.size
          have zPR := blk_lt hP2
          have zQR := blk_lt hQ2
          have hR3 : (((w1.alloc (.cells #[.int .i64 p0, .int .i64 p1] 24)).alloc (.cells #[.int .i64 b0, .int .i64 b1, .int .i64 b2, .int .i64 b3, .int .i64 b4] 26)).alloc (.cells #[.int .i64 r0, .int .i64 r1, .int .i64 r2] 28)).heap[w1.heap.size + 1 + 1]? = some (.cells #[.int .i64 r0, .int .i64 r1, .int .i64 r2] 28) := by have := blk_new ((w1.alloc (.cells #[.int .i64 p0, .int .i64 p1] 24)).alloc (.cells #[.int .i64 b0, .int .i64 b1, .int .i64 b2, .int .i64 b3, .int .i64 b4] 26)) (.cells #[.int .i64 r0, .int .i64 r1, .int .i64 r2] 28); simpa using this
          have hP3 := blk_old hP2 (.cells #[.int .i64 r0, .int .i64 r1, .int .i64 r2] 28)
          have hQ3 := blk_old hQ2 (.cells #[.int .i64 r0, .int .i64 r1, .int .i64 r2] 28)
          have hB3 := hB2.alloc hB2.size (.cells #[.int .i64 r0, .int .i64 r1, .int .i64 r2] 28)
          have zBR := hB2.size
          obtain ⟨cP3_0, cP3_1, fP3_0, fP3_1, zP3⟩ := blk2 hP3
          obtain ⟨cQ3_0, cQ3_1, cQ3_2, cQ3_3, cQ3_4, fQ3_0, fQ3_1, fQ3_2, fQ3_3, fQ3_4, zQ3⟩ := blk5 hQ3
          obtain ⟨cR3_0, cR3_1, cR3_2, fR3_0, fR3_1, fR3_2, zR3⟩ := blk3 hR3
          go_wp2_with fail
          refine (iSh_is _ HS.out).mono ?_; rintro e' w4 ⟨rfl, hw4⟩
          have hP4 := blk_next hP3 hw4
          have hQ4 := blk_next hQ3 hw4
          have hR4 := blk_next hR3 hw4
          have hB4 := bel_next hB3 hw4
          obtain ⟨cP4_0, cP4_1, fP4_0, fP4_1, zP4⟩ := blk2 hP4
          obtain ⟨cQ4_0, cQ4_1, cQ4_2, cQ4_3, cQ4_4, fQ4_0, fQ4_1, fQ4_2, fQ4_3, fQ4_4, zQ4⟩ := blk5 hQ4
          obtain ⟨cR4_0, cR4_1, cR4_2, fR4_0, fR4_1, fR4_2, zR4⟩ := blk3 hR4
          go_wp2_with fail
          refine (sSh_is _ HS.out).mono ?_; rintro e' w5 ⟨rfl, hw5⟩
          have hP5 := blk_next hP4 hw5
          have hQ5 := blk_next hQ4 hw5
          have hR5 := blk_next hR4 hw5
          have hB5 := bel_next hB4 hw5
          obtain ⟨cP5_0, cP5_1, fP5_0, fP5_1, zP5⟩ := blk2 hP5
          go_wp2_with fail
          refine (sPV_is _ HVP.out).mono ?_; rintro e' w6 ⟨rfl, hw6⟩
          have hP6 := blk_next hP5 hw6
          have hQ6 := blk_next hQ5 hw6
          have hR6 := blk_next hR5 hw6
          have hB6 := bel_next hB5 hw6
          obtain ⟨cQ6_0, cQ6_1, cQ6_2, cQ6_3, cQ6_4, fQ6_0, fQ6_1, fQ6_2, fQ6_3, fQ6_4, zQ6⟩ := blk5 hQ6
          go_wp2_with fail
          refine (sBV_is _ HVB.out).mono ?_; rintro e' w7 ⟨rfl, hw7⟩
          have hP7 := blk_next hP6 hw7
          have hQ7 := blk_next hQ6 hw7
          have hR7 := blk_next hR6 hw7
          have hB7 := bel_next hB6 hw7
          obtain ⟨cR7_0, cR7_1, cR7_2, fR7_0, fR7_1, fR7_2, zR7⟩ := blk3 hR7
          go_wp2_with fail
          refine (sRV_is _ HVR.out).mono ?_; rintro e' w8 ⟨rfl, hw8⟩
          have hP8 := blk_next hP7 hw8
          have hQ8 := blk_next hQ7 hw8
          have hR8 := blk_next hR7 hw8
          have hB8 := bel_next hB7 hw8
          obtain ⟨cQ8_0, cQ8_1, cQ8_2, cQ8_3, cQ8_4, fQ8_0, fQ8_1, fQ8_2, fQ8_3, fQ8_4, zQ8⟩ := blk5 hQ8
          obtain ⟨cR8_0, cR8_1, cR8_2, fR8_0, fR8_1, fR8_2, zR8⟩ := blk3 hR8
          have zPH := blk_lt hP8
          have zQH := blk_lt hQ8
          have zRH := blk_lt hR8
          have hH9 : (w8.alloc (.cells #[.int .i64 b0, .int .i64 b1, .int .i64 b2, .int .i64 b3, .int .i64 (b4 + 1)] 26)).heap[w8.heap.size]? = some (.cells #[.int .i64 b0, .int .i64 b1, .int .i64 b2, .int .i64 b3, .int .i64 (b4 + 1)] 26) := by have := blk_new w8 (.cells #[.int .i64 b0, .int .i64 b1, .int .i64 b2, .int .i64 b3, .int .i64 (b4 + 1)] 26); simpa using this
          have hP9 := blk_old hP8 (.cells #[.int .i64 b0, .int .i64 b1, .int .i64 b2, .int .i64 b3, .int .i64 (b4 + 1)] 26)
          have hQ9 := blk_old hQ8 (.cells #[.int .i64 b0, .int .i64 b1, .int .i64 b2, .int .i64 b3, .int .i64 (b4 + 1)] 26)
          have hR9 := blk_old hR8 (.cells #[.int .i64 b0, .int .i64 b1, .int .i64 b2, .int .i64 b3, .int .i64 (b4 + 1)] 26)
          have hB9 := hB8.alloc hB8.size (.cells #[.int .i64 b0, .int .i64 b1, .int .i64 b2, .int .i64 b3, .int .i64 (b4 + 1)] 26)
          have zBH := hB8.size
          obtain ⟨cR9_0, cR9_1, cR9_2, fR9_0, fR9_1, fR9_2, zR9⟩ := blk3 hR9
          have zPU := blk_lt hP9
          have zQU := blk_lt hQ9
          have zRU := blk_lt hR9
          have zHU := blk_lt hH9
          have hU10 : ((w8.alloc (.cells #[.int .i64 b0, .int .i64 b1, .int .i64 b2, .int .i64 b3, .int .i64 (b4 + 1)] 26)).alloc (.cells #[.int .i64 r0, .int .i64 r1, .int .i64 (r2 - 1)] 28)).heap[w8.heap.size + 1]? = some (.cells #[.int .i64 r0, .int .i64 r1, .int .i64 (r2 - 1)] 28) := by have := blk_new (w8.alloc (.cells #[.int .i64 b0, .int .i64 b1, .int .i64 b2, .int .i64 b3, .int .i64 (b4 + 1)] 26)) (.cells #[.int .i64 r0, .int .i64 r1, .int .i64 (r2 - 1)] 28); simpa using this
          have hP10 := blk_old hP9 (.cells #[.int .i64 r0, .int .i64 r1, .int .i64 (r2 - 1)] 28)
          have hQ10 := blk_old hQ9 (.cells #[.int .i64 r0, .int .i64 r1, .int .i64 (r2 - 1)] 28)
          have hR10 := blk_old hR9 (.cells #[.int .i64 r0, .int .i64 r1, .int .i64 (r2 - 1)] 28)
          have hH10 := blk_old hH9 (.cells #[.int .i64 r0, .int .i64 r1, .int .i64 (r2 - 1)] 28)
          have hB10 := hB9.alloc hB9.size (.cells #[.int .i64 r0, .int .i64 r1, .int .i64 (r2 - 1)] 28)
          have zBU := hB9.size
          obtain ⟨cR10_0, cR10_1, cR10_2, fR10_0, fR10_1, fR10_2, zR10⟩ := blk3 hR10
          have zPG := blk_lt hP10
          have zQG := blk_lt hQ10
          have zRG := blk_lt hR10
          have zHG := blk_lt hH10
          have zUG := blk_lt hU10
          have hG11 : (((w8.alloc (.cells #[.int .i64 b0, .int .i64 b1, .int .i64 b2, .int .i64 b3, .int .i64 (b4 + 1)] 26)).alloc (.cells #[.int .i64 r0, .int .i64 r1, .int .i64 (r2 - 1)] 28)).alloc (.cells #[.int .i64 (2 * r0), .int .i64 (2 * r1), .int .i64 (2 * r2)] 28)).heap[w8.heap.size + 1 + 1]? = some (.cells #[.int .i64 (2 * r0), .int .i64 (2 * r1), .int .i64 (2 * r2)] 28) := by have := blk_new ((w8.alloc (.cells #[.int .i64 b0, .int .i64 b1, .int .i64 b2, .int .i64 b3, .int .i64 (b4 + 1)] 26)).alloc (.cells #[.int .i64 r0, .int .i64 r1, .int .i64 (r2 - 1)] 28)) (.cells #[.int .i64 (2 * r0), .int .i64 (2 * r1), .int .i64 (2 * r2)] 28); simpa using this
          have hP11 := blk_old hP10 (.cells #[.int .i64 (2 * r0), .int .i64 (2 * r1), .int .i64 (2 * r2)] 28)
          have hQ11 := blk_old hQ10 (.cells #[.int .i64 (2 * r0), .int .i64 (2 * r1), .int .i64 (2 * r2)] 28)
          have hR11 := blk_old hR10 (.cells #[.int .i64 (2 * r0), .int .i64 (2 * r1), .int .i64 (2 * r2)] 28)
          have hH11 := blk_old hH10 (.cells #[.int .i64 (2 * r0), .int .i64 (2 * r1), .int .i64 (2 * r2)] 28)
          have hU11 := blk_old hU10 (.cells #[.int .i64 (2 * r0), .int .i64 (2 * r1), .int .i64 (2 * r2)] 28)
          have hB11 := hB10.alloc hB10.size (.cells #[.int .i64 (2 * r0), .int .i64 (2 * r1), .int .i64 (2 * r2)] 28)
          have zBG := hB10.size
          obtain ⟨cP11_0, cP11_1, fP11_0, fP11_1, zP11⟩ := blk2 hP11
          obtain ⟨cQ11_0, cQ11_1, cQ11_2, cQ11_3, cQ11_4, fQ11_0, fQ11_1, fQ11_2, fQ11_3, fQ11_4, zQ11⟩ := blk5 hQ11
          obtain ⟨cG11_0, cG11_1, cG11_2, fG11_0, fG11_1, fG11_2, zG11⟩ := blk3 hG11
          go_wp2_with fail
          refine (iRV_is _ HLV.out).mono ?_; rintro e' w12 ⟨rfl, hw12⟩
          have hP12 := blk_next hP11 hw12
          have hQ12 := blk_next hQ11 hw12
          have hR12 := blk_next hR11 hw12
          have hH12 := blk_next hH11 hw12
          have hU12 := blk_next hU11 hw12
          have hG12 := blk_next hG11 hw12
          have hB12 := bel_next hB11 hw12
          cases lv
          · go_wp2_with fail
            refine wp_region_held_drew (S := (fun w' => w'.heap[w1.heap.size]? = some (.cells #[.int .i64 p0, .int .i64 p1] 24) ∧ w'.heap[w1.heap.size + 1]? = some (.cells #[.int .i64 b0, .int .i64 b1, .int .i64 b2, .int .i64 b3, .int .i64 b4] 26) ∧ w'.heap[w1.heap.size + 1 + 1]? = some (.cells #[.int .i64 r0, .int .i64 r1, .int .i64 r2] 28) ∧ w'.heap[w8.heap.size]? = some (.cells #[.int .i64 b0, .int .i64 b1, .int .i64 b2, .int .i64 b3, .int .i64 (b4 + 1)] 26) ∧ w'.heap[w8.heap.size + 1]? = some (.cells #[.int .i64 r0, .int .i64 r1, .int .i64 (r2 - 1)] 28) ∧ Below w.heap.size w w')) (by kernel_rfl) ⟨hP12, hQ12, hR12, hH12, hU12, hB12.drew⟩ (fun hHeld => ?_)
            obtain ⟨hP_0, hQ_0, hR_0, hH_0, hU_0, hB_0⟩ := id hHeld
            refine wpAnyH_take (i := 0) (oi := _) (v := ?_) rfl (by kernel_rfl) (by kernel_rfl) (by kernel_rfl) (fun _ _ _ h => h) (Or.inl ⟨by rfl, ?_⟩) (by assumption) ?_
            (rotate_left); (focus (intro wv hSw; (obtain ⟨qP, qQ, qR, qH, qU, qB⟩ := hSw); obtain ⟨_, _, _, _, _⟩ := blk2 qP; obtain ⟨_, _, _, _, _, _, _, _, _, _, _⟩ := blk5 qQ; obtain ⟨_, _, _, _, _, _, _⟩ := blk3 qR; obtain ⟨_, _, _, _, _, _, _, _, _, _, _⟩ := blk5 qH; obtain ⟨_, _, _, _, _, _, _⟩ := blk3 qU; go_simp; (try with_reducible rfl)))
            try simp only [Act.put, List.getElem_toArray, List.getElem_cons_succ, List.getElem_cons_zero, List.setIfInBounds_toArray, List.set_cons_zero, List.set_cons_succ]
            refine wpAnyH_take (i := 2) (oi := _) (v := ?_) rfl (by kernel_rfl) (by kernel_rfl) (by kernel_rfl) (fun _ _ _ h => h) (Or.inl ⟨by rfl, ?_⟩) (by assumption) ?_
            (rotate_left); (focus (intro wv hSw; (obtain ⟨qP, qQ, qR, qH, qU, qB⟩ := hSw); obtain ⟨_, _, _, _, _⟩ := blk2 qP; obtain ⟨_, _, _, _, _, _, _, _, _, _, _⟩ := blk5 qQ; obtain ⟨_, _, _, _, _, _, _⟩ := blk3 qR; obtain ⟨_, _, _, _, _, _, _, _, _, _, _⟩ := blk5 qH; obtain ⟨_, _, _, _, _, _, _⟩ := blk3 qU; go_simp; (try with_reducible rfl)))
            try simp only [Act.put, List.getElem_toArray, List.getElem_cons_succ, List.getElem_cons_zero, List.setIfInBounds_toArray, List.set_cons_zero, List.set_cons_succ]
            refine wpAnyH_take (i := 4) (oi := _) (v := ?_) rfl (by kernel_rfl) (by kernel_rfl) (by kernel_rfl) (fun _ _ _ h => h) (Or.inl ⟨by rfl, ?_⟩) (by assumption) ?_
            (rotate_left); (focus (intro wv hSw; (obtain ⟨qP, qQ, qR, qH, qU, qB⟩ := hSw); obtain ⟨_, _, _, _, _⟩ := blk2 qP; obtain ⟨_, _, _, _, _, _, _, _, _, _, _⟩ := blk5 qQ; obtain ⟨_, _, _, _, _, _, _⟩ := blk3 qR; obtain ⟨_, _, _, _, _, _, _, _, _, _, _⟩ := blk5 qH; obtain ⟨_, _, _, _, _, _, _⟩ := blk3 qU; go_simp; (try with_reducible rfl)))
            try simp only [Act.put, List.getElem_toArray, List.getElem_cons_succ, List.getElem_cons_zero, List.setIfInBounds_toArray, List.set_cons_zero, List.set_cons_succ]
            refine wpAnyH_take (i := 7) (oi := _) (v := ?_) rfl (by kernel_rfl) (by kernel_rfl) (by kernel_rfl) (fun _ _ _ h => h) (Or.inl ⟨by rfl, ?_⟩) (by assumption) ?_
            (rotate_left); (focus (intro wv hSw; (obtain ⟨qP, qQ, qR, qH, qU, qB⟩ := hSw); obtain ⟨_, _, _, _, _⟩ := blk2 qP; obtain ⟨_, _, _, _, _, _, _, _, _, _, _⟩ := blk5 qQ; obtain ⟨_, _, _, _, _, _, _⟩ := blk3 qR; obtain ⟨_, _, _, _, _, _, _, _, _, _, _⟩ := blk5 qH; obtain ⟨_, _, _, _, _, _, _⟩ := blk3 qU; go_simp; (try with_reducible rfl)))
            try simp only [Act.put, List.getElem_toArray, List.getElem_cons_succ, List.getElem_cons_zero, List.setIfInBounds_toArray, List.set_cons_zero, List.set_cons_succ]
            refine wpAnyH_ready (rs := [1]) (by kernel_rfl) (by simp) ?_
            refine AllReadyH.cons (o := _) rfl (fun K hK => ?_) (AllReadyH.nil)
            go_simp
            (go_at_call 19; refine (iPT_is _ HVP.out HY1.out).mono ?_; rintro e x0c ⟨rfl, hw_0c⟩)
            refine hK.out _ _ ⟨blk_next hP_0 hw_0c, blk_next hQ_0 hw_0c, blk_next hR_0 hw_0c, blk_next hH_0 hw_0c, blk_next hU_0 hw_0c, bel_next hB_0 hw_0c⟩ (fun hHeld => ?_)
            clear hK K
            try simp only [Act.put, List.getElem_toArray, List.getElem_cons_succ, List.getElem_cons_zero, List.setIfInBounds_toArray, List.set_cons_zero, List.set_cons_succ]
            obtain ⟨hP_0c, hQ_0c, hR_0c, hH_0c, hU_0c, hB_0c⟩ := id hHeld
            refine wpAnyH_ready (rs := [3]) (by kernel_rfl) (by simp) ?_
            refine AllReadyH.cons (o := _) rfl (fun K hK => ?_) (AllReadyH.nil)
            go_simp
            (go_at_call 20; refine (iBT_is _ HVB.out HZ3.out HZ2.out).mono ?_; rintro e x0cc ⟨rfl, hw_0cc⟩)
            refine hK.out _ _ ⟨blk_next hP_0c hw_0cc, blk_next hQ_0c hw_0cc, blk_next hR_0c hw_0cc, blk_next hH_0c hw_0cc, blk_next hU_0c hw_0cc, bel_next hB_0c hw_0cc⟩ (fun hHeld => ?_)
            clear hK K
            try simp only [Act.put, List.getElem_toArray, List.getElem_cons_succ, List.getElem_cons_zero, List.setIfInBounds_toArray, List.set_cons_zero, List.set_cons_succ]
            obtain ⟨hP_0cc, hQ_0cc, hR_0cc, hH_0cc, hU_0cc, hB_0cc⟩ := id hHeld
            refine wpAnyH_ready (rs := [5]) (by kernel_rfl) (by simp) ?_
            refine AllReadyH.cons (o := _) rfl (fun K hK => ?_) (AllReadyH.nil)
            go_simp
            (go_at_call 21; refine (iRT_is _ HVR.out HQ1.out).mono ?_; rintro e x0ccc ⟨rfl, hw_0ccc⟩)
            refine hK.out _ _ ⟨blk_next hP_0cc hw_0ccc, blk_next hQ_0cc hw_0ccc, blk_next hR_0cc hw_0ccc, blk_next hH_0cc hw_0ccc, blk_next hU_0cc hw_0ccc, bel_next hB_0cc hw_0ccc⟩ (fun hHeld => ?_)
            clear hK K
            try simp only [Act.put, List.getElem_toArray, List.getElem_cons_succ, List.getElem_cons_zero, List.setIfInBounds_toArray, List.set_cons_zero, List.set_cons_succ]
            obtain ⟨hP_0ccc, hQ_0ccc, hR_0ccc, hH_0ccc, hU_0ccc, hB_0ccc⟩ := id hHeld
            refine wpAnyH_ready (rs := [6]) (by kernel_rfl) (by simp) ?_
            refine AllReadyH.cons (o := _) rfl (fun K hK => ?_) (AllReadyH.nil)
            go_simp
            (go_at_call 12; refine (iSh_is _ HT.out).mono ?_; rintro e x0cccc ⟨rfl, hw_0cccc⟩)
            refine hK.out _ _ ⟨blk_next hP_0ccc hw_0cccc, blk_next hQ_0ccc hw_0cccc, blk_next hR_0ccc hw_0cccc, blk_next hH_0ccc hw_0cccc, blk_next hU_0ccc hw_0cccc, bel_next hB_0ccc hw_0cccc⟩ (fun hHeld => ?_)
            clear hK K
            try simp only [Act.put, List.getElem_toArray, List.getElem_cons_succ, List.getElem_cons_zero, List.setIfInBounds_toArray, List.set_cons_zero, List.set_cons_succ]
            obtain ⟨hP_0cccc, hQ_0cccc, hR_0cccc, hH_0cccc, hU_0cccc, hB_0cccc⟩ := id hHeld
            refine wpAnyH_take (i := 8) (oi := _) (v := ?_) rfl (by kernel_rfl) (by kernel_rfl) (by kernel_rfl) (fun _ _ _ h => h) (Or.inl ⟨by rfl, ?_⟩) (by assumption) ?_
            (rotate_left); (focus (intro wv hSw; (obtain ⟨qP, qQ, qR, qH, qU, qB⟩ := hSw); obtain ⟨_, _, _, _, _⟩ := blk2 qP; obtain ⟨_, _, _, _, _, _, _, _, _, _, _⟩ := blk5 qQ; obtain ⟨_, _, _, _, _, _, _⟩ := blk3 qR; obtain ⟨_, _, _, _, _, _, _, _, _, _, _⟩ := blk5 qH; obtain ⟨_, _, _, _, _, _, _⟩ := blk3 qU; go_simp; (try with_reducible rfl)))
            try simp only [Act.put, List.getElem_toArray, List.getElem_cons_succ, List.getElem_cons_zero, List.setIfInBounds_toArray, List.set_cons_zero, List.set_cons_succ]
            refine wpAnyH_done (by kernel_rfl) ?_ _
            have hP13 := hP_0cccc
            have hQ13 := hQ_0cccc
            have hR13 := hR_0cccc
            have hH13 := hH_0cccc
            have hU13 := hU_0cccc
            have hB13 := hB_0cccc
            clear hP_0 hQ_0 hR_0 hH_0 hU_0 hB_0 hP_0c hQ_0c hR_0c hH_0c hU_0c hB_0c hP_0cc hQ_0cc hR_0cc hH_0cc hU_0cc hB_0cc hP_0ccc hQ_0ccc hR_0ccc hH_0ccc hU_0ccc hB_0ccc hP_0cccc hQ_0cccc hR_0cccc hH_0cccc hU_0cccc hB_0cccc hHeld
            cases s
            · go_wp2
              go_ret
              exact ⟨rfl, by first | exact hB13 | exact hB13.drew⟩
            · cases hv
              · obtain ⟨cP13_0, cP13_1, fP13_0, fP13_1, zP13⟩ := blk2 hP13
                obtain ⟨cH13_0, cH13_1, cH13_2, cH13_3, cH13_4, fH13_0, fH13_1, fH13_2, fH13_3, fH13_4, zH13⟩ := blk5 hH13
                obtain ⟨cR13_0, cR13_1, cR13_2, fR13_0, fR13_1, fR13_2, zR13⟩ := blk3 hR13
                go_wp2_with fail
                refine (iBV_is _ HHV.out).mono ?_; rintro e' w14 ⟨rfl, hw14⟩
                have hP14 := blk_next hP13 hw14
                have hQ14 := blk_next hQ13 hw14
                have hR14 := blk_next hR13 hw14
                have hH14 := blk_next hH13 hw14
                have hU14 := blk_next hU13 hw14
                have hB14 := bel_next hB13 hw14
                obtain ⟨cU14_0, cU14_1, cU14_2, fU14_0, fU14_1, fU14_2, zU14⟩ := blk3 hU14
                go_wp2_with fail
                refine (iRV_is _ HUV.out).mono ?_; rintro e' w15 ⟨rfl, hw15⟩
                have hP15 := blk_next hP14 hw15
                have hQ15 := blk_next hQ14 hw15
                have hR15 := blk_next hR14 hw15
                have hH15 := blk_next hH14 hw15
                have hU15 := blk_next hU14 hw15
                have hB15 := bel_next hB14 hw15
                cases uv
                · go_wp2
                  go_ret
                  exact ⟨rfl, by first | exact hB15 | exact hB15.drew⟩
                · obtain ⟨cP15_0, cP15_1, fP15_0, fP15_1, zP15⟩ := blk2 hP15
                  obtain ⟨cQ15_0, cQ15_1, cQ15_2, cQ15_3, cQ15_4, fQ15_0, fQ15_1, fQ15_2, fQ15_3, fQ15_4, zQ15⟩ := blk5 hQ15
                  obtain ⟨cU15_0, cU15_1, cU15_2, fU15_0, fU15_1, fU15_2, zU15⟩ := blk3 hU15
                  go_wp2_with fail
                  refine (iSh_is _ (HU.out (by trivial) (by trivial))).mono ?_; rintro e' w16 ⟨rfl, hw16⟩
                  have hP16 := blk_next hP15 hw16
                  have hQ16 := blk_next hQ15 hw16
                  have hR16 := blk_next hR15 hw16
                  have hH16 := blk_next hH15 hw16
                  have hU16 := blk_next hU15 hw16
                  have hB16 := bel_next hB15 hw16
                  go_wp2
                  go_ret
                  exact ⟨rfl, by first | exact hB16 | exact hB16.drew⟩
              · obtain ⟨cP13_0, cP13_1, fP13_0, fP13_1, zP13⟩ := blk2 hP13
                obtain ⟨cH13_0, cH13_1, cH13_2, cH13_3, cH13_4, fH13_0, fH13_1, fH13_2, fH13_3, fH13_4, zH13⟩ := blk5 hH13
                obtain ⟨cR13_0, cR13_1, cR13_2, fR13_0, fR13_1, fR13_2, zR13⟩ := blk3 hR13
                go_wp2_with fail
                refine (iBV_is _ HHV.out).mono ?_; rintro e' w14 ⟨rfl, hw14⟩
                have hP14 := blk_next hP13 hw14
                have hQ14 := blk_next hQ13 hw14
                have hR14 := blk_next hR13 hw14
                have hH14 := blk_next hH13 hw14
                have hU14 := blk_next hU13 hw14
                have hB14 := bel_next hB13 hw14
                obtain ⟨cP14_0, cP14_1, fP14_0, fP14_1, zP14⟩ := blk2 hP14
                obtain ⟨cH14_0, cH14_1, cH14_2, cH14_3, cH14_4, fH14_0, fH14_1, fH14_2, fH14_3, fH14_4, zH14⟩ := blk5 hH14
                obtain ⟨cR14_0, cR14_1, cR14_2, fR14_0, fR14_1, fR14_2, zR14⟩ := blk3 hR14
                go_wp2_with fail
                refine (iSh_is _ (HH.out (by trivial) (by trivial))).mono ?_; rintro e' w15 ⟨rfl, hw15⟩
                have hP15 := blk_next hP14 hw15
                have hQ15 := blk_next hQ14 hw15
                have hR15 := blk_next hR14 hw15
                have hH15 := blk_next hH14 hw15
                have hU15 := blk_next hU14 hw15
                have hB15 := bel_next hB14 hw15
                obtain ⟨cU15_0, cU15_1, cU15_2, fU15_0, fU15_1, fU15_2, zU15⟩ := blk3 hU15
                go_wp2_with fail
                refine (iRV_is _ HUV.out).mono ?_; rintro e' w16 ⟨rfl, hw16⟩
                have hP16 := blk_next hP15 hw16
                have hQ16 := blk_next hQ15 hw16
                have hR16 := blk_next hR15 hw16
                have hH16 := blk_next hH15 hw16
                have hU16 := blk_next hU15 hw16
                have hB16 := bel_next hB15 hw16
                cases uv
                · go_wp2
                  go_ret
                  exact ⟨rfl, by first | exact hB16 | exact hB16.drew⟩
                · obtain ⟨cP16_0, cP16_1, fP16_0, fP16_1, zP16⟩ := blk2 hP16
                  obtain ⟨cQ16_0, cQ16_1, cQ16_2, cQ16_3, cQ16_4, fQ16_0, fQ16_1, fQ16_2, fQ16_3, fQ16_4, zQ16⟩ := blk5 hQ16
                  obtain ⟨cU16_0, cU16_1, cU16_2, fU16_0, fU16_1, fU16_2, zU16⟩ := blk3 hU16
                  go_wp2_with fail
                  refine (iSh_is _ (HU.out (by trivial) (by trivial))).mono ?_; rintro e' w17 ⟨rfl, hw17⟩
                  have hP17 := blk_next hP16 hw17
                  have hQ17 := blk_next hQ16 hw17
                  have hR17 := blk_next hR16 hw17
                  have hH17 := blk_next hH16 hw17
                  have hU17 := blk_next hU16 hw17
                  have hB17 := bel_next hB16 hw17
                  go_wp2
                  go_ret
                  exact ⟨rfl, by first | exact hB17 | exact hB17.drew⟩
          · obtain ⟨cP12_0, cP12_1, fP12_0, fP12_1, zP12⟩ := blk2 hP12
            obtain ⟨cQ12_0, cQ12_1, cQ12_2, cQ12_3, cQ12_4, fQ12_0, fQ12_1, fQ12_2, fQ12_3, fQ12_4, zQ12⟩ := blk5 hQ12
            obtain ⟨cG12_0, cG12_1, cG12_2, fG12_0, fG12_1, fG12_2, zG12⟩ := blk3 hG12
            go_wp2_with fail
            refine (iSh_is _ (HL.out (by trivial))).mono ?_; rintro e' w13 ⟨rfl, hw13⟩
            have hP13 := blk_next hP12 hw13
            have hQ13 := blk_next hQ12 hw13
            have hR13 := blk_next hR12 hw13
            have hH13 := blk_next hH12 hw13
            have hU13 := blk_next hU12 hw13
            have hG13 := blk_next hG12 hw13
            have hB13 := bel_next hB12 hw13
            go_wp2_with fail
            refine wp_region_held_drew (S := (fun w' => w'.heap[w1.heap.size]? = some (.cells #[.int .i64 p0, .int .i64 p1] 24) ∧ w'.heap[w1.heap.size + 1]? = some (.cells #[.int .i64 b0, .int .i64 b1, .int .i64 b2, .int .i64 b3, .int .i64 b4] 26) ∧ w'.heap[w1.heap.size + 1 + 1]? = some (.cells #[.int .i64 r0, .int .i64 r1, .int .i64 r2] 28) ∧ w'.heap[w8.heap.size]? = some (.cells #[.int .i64 b0, .int .i64 b1, .int .i64 b2, .int .i64 b3, .int .i64 (b4 + 1)] 26) ∧ w'.heap[w8.heap.size + 1]? = some (.cells #[.int .i64 r0, .int .i64 r1, .int .i64 (r2 - 1)] 28) ∧ Below w.heap.size w w')) (by kernel_rfl) ⟨hP13, hQ13, hR13, hH13, hU13, hB13.drew⟩ (fun hHeld => ?_)
            obtain ⟨hP_0, hQ_0, hR_0, hH_0, hU_0, hB_0⟩ := id hHeld
            refine wpAnyH_take (i := 0) (oi := _) (v := ?_) rfl (by kernel_rfl) (by kernel_rfl) (by kernel_rfl) (fun _ _ _ h => h) (Or.inl ⟨by rfl, ?_⟩) (by assumption) ?_
            (rotate_left); (focus (intro wv hSw; (obtain ⟨qP, qQ, qR, qH, qU, qB⟩ := hSw); obtain ⟨_, _, _, _, _⟩ := blk2 qP; obtain ⟨_, _, _, _, _, _, _, _, _, _, _⟩ := blk5 qQ; obtain ⟨_, _, _, _, _, _, _⟩ := blk3 qR; obtain ⟨_, _, _, _, _, _, _, _, _, _, _⟩ := blk5 qH; obtain ⟨_, _, _, _, _, _, _⟩ := blk3 qU; go_simp; (try with_reducible rfl)))
            try simp only [Act.put, List.getElem_toArray, List.getElem_cons_succ, List.getElem_cons_zero, List.setIfInBounds_toArray, List.set_cons_zero, List.set_cons_succ]
            refine wpAnyH_take (i := 2) (oi := _) (v := ?_) rfl (by kernel_rfl) (by kernel_rfl) (by kernel_rfl) (fun _ _ _ h => h) (Or.inl ⟨by rfl, ?_⟩) (by assumption) ?_
            (rotate_left); (focus (intro wv hSw; (obtain ⟨qP, qQ, qR, qH, qU, qB⟩ := hSw); obtain ⟨_, _, _, _, _⟩ := blk2 qP; obtain ⟨_, _, _, _, _, _, _, _, _, _, _⟩ := blk5 qQ; obtain ⟨_, _, _, _, _, _, _⟩ := blk3 qR; obtain ⟨_, _, _, _, _, _, _, _, _, _, _⟩ := blk5 qH; obtain ⟨_, _, _, _, _, _, _⟩ := blk3 qU; go_simp; (try with_reducible rfl)))
            try simp only [Act.put, List.getElem_toArray, List.getElem_cons_succ, List.getElem_cons_zero, List.setIfInBounds_toArray, List.set_cons_zero, List.set_cons_succ]
            refine wpAnyH_take (i := 4) (oi := _) (v := ?_) rfl (by kernel_rfl) (by kernel_rfl) (by kernel_rfl) (fun _ _ _ h => h) (Or.inl ⟨by rfl, ?_⟩) (by assumption) ?_
            (rotate_left); (focus (intro wv hSw; (obtain ⟨qP, qQ, qR, qH, qU, qB⟩ := hSw); obtain ⟨_, _, _, _, _⟩ := blk2 qP; obtain ⟨_, _, _, _, _, _, _, _, _, _, _⟩ := blk5 qQ; obtain ⟨_, _, _, _, _, _, _⟩ := blk3 qR; obtain ⟨_, _, _, _, _, _, _, _, _, _, _⟩ := blk5 qH; obtain ⟨_, _, _, _, _, _, _⟩ := blk3 qU; go_simp; (try with_reducible rfl)))
            try simp only [Act.put, List.getElem_toArray, List.getElem_cons_succ, List.getElem_cons_zero, List.setIfInBounds_toArray, List.set_cons_zero, List.set_cons_succ]
            refine wpAnyH_take (i := 7) (oi := _) (v := ?_) rfl (by kernel_rfl) (by kernel_rfl) (by kernel_rfl) (fun _ _ _ h => h) (Or.inl ⟨by rfl, ?_⟩) (by assumption) ?_
            (rotate_left); (focus (intro wv hSw; (obtain ⟨qP, qQ, qR, qH, qU, qB⟩ := hSw); obtain ⟨_, _, _, _, _⟩ := blk2 qP; obtain ⟨_, _, _, _, _, _, _, _, _, _, _⟩ := blk5 qQ; obtain ⟨_, _, _, _, _, _, _⟩ := blk3 qR; obtain ⟨_, _, _, _, _, _, _, _, _, _, _⟩ := blk5 qH; obtain ⟨_, _, _, _, _, _, _⟩ := blk3 qU; go_simp; (try with_reducible rfl)))
            try simp only [Act.put, List.getElem_toArray, List.getElem_cons_succ, List.getElem_cons_zero, List.setIfInBounds_toArray, List.set_cons_zero, List.set_cons_succ]
            refine wpAnyH_ready (rs := [1]) (by kernel_rfl) (by simp) ?_
            refine AllReadyH.cons (o := _) rfl (fun K hK => ?_) (AllReadyH.nil)
            go_simp
            (go_at_call 19; refine (iPT_is _ HVP.out HY1.out).mono ?_; rintro e x0c ⟨rfl, hw_0c⟩)
            refine hK.out _ _ ⟨blk_next hP_0 hw_0c, blk_next hQ_0 hw_0c, blk_next hR_0 hw_0c, blk_next hH_0 hw_0c, blk_next hU_0 hw_0c, bel_next hB_0 hw_0c⟩ (fun hHeld => ?_)
            clear hK K
            try simp only [Act.put, List.getElem_toArray, List.getElem_cons_succ, List.getElem_cons_zero, List.setIfInBounds_toArray, List.set_cons_zero, List.set_cons_succ]
            obtain ⟨hP_0c, hQ_0c, hR_0c, hH_0c, hU_0c, hB_0c⟩ := id hHeld
            refine wpAnyH_ready (rs := [3]) (by kernel_rfl) (by simp) ?_
            refine AllReadyH.cons (o := _) rfl (fun K hK => ?_) (AllReadyH.nil)
            go_simp
            (go_at_call 20; refine (iBT_is _ HVB.out HZ3.out HZ2.out).mono ?_; rintro e x0cc ⟨rfl, hw_0cc⟩)
            refine hK.out _ _ ⟨blk_next hP_0c hw_0cc, blk_next hQ_0c hw_0cc, blk_next hR_0c hw_0cc, blk_next hH_0c hw_0cc, blk_next hU_0c hw_0cc, bel_next hB_0c hw_0cc⟩ (fun hHeld => ?_)
            clear hK K
            try simp only [Act.put, List.getElem_toArray, List.getElem_cons_succ, List.getElem_cons_zero, List.setIfInBounds_toArray, List.set_cons_zero, List.set_cons_succ]
            obtain ⟨hP_0cc, hQ_0cc, hR_0cc, hH_0cc, hU_0cc, hB_0cc⟩ := id hHeld
            refine wpAnyH_ready (rs := [5]) (by kernel_rfl) (by simp) ?_
            refine AllReadyH.cons (o := _) rfl (fun K hK => ?_) (AllReadyH.nil)
            go_simp
            (go_at_call 21; refine (iRT_is _ HVR.out HQ1.out).mono ?_; rintro e x0ccc ⟨rfl, hw_0ccc⟩)
            refine hK.out _ _ ⟨blk_next hP_0cc hw_0ccc, blk_next hQ_0cc hw_0ccc, blk_next hR_0cc hw_0ccc, blk_next hH_0cc hw_0ccc, blk_next hU_0cc hw_0ccc, bel_next hB_0cc hw_0ccc⟩ (fun hHeld => ?_)
            clear hK K
            try simp only [Act.put, List.getElem_toArray, List.getElem_cons_succ, List.getElem_cons_zero, List.setIfInBounds_toArray, List.set_cons_zero, List.set_cons_succ]
            obtain ⟨hP_0ccc, hQ_0ccc, hR_0ccc, hH_0ccc, hU_0ccc, hB_0ccc⟩ := id hHeld
            refine wpAnyH_ready (rs := [6]) (by kernel_rfl) (by simp) ?_
            refine AllReadyH.cons (o := _) rfl (fun K hK => ?_) (AllReadyH.nil)
            go_simp
            (go_at_call 12; refine (iSh_is _ HT.out).mono ?_; rintro e x0cccc ⟨rfl, hw_0cccc⟩)
            refine hK.out _ _ ⟨blk_next hP_0ccc hw_0cccc, blk_next hQ_0ccc hw_0cccc, blk_next hR_0ccc hw_0cccc, blk_next hH_0ccc hw_0cccc, blk_next hU_0ccc hw_0cccc, bel_next hB_0ccc hw_0cccc⟩ (fun hHeld => ?_)
            clear hK K
            try simp only [Act.put, List.getElem_toArray, List.getElem_cons_succ, List.getElem_cons_zero, List.setIfInBounds_toArray, List.set_cons_zero, List.set_cons_succ]
            obtain ⟨hP_0cccc, hQ_0cccc, hR_0cccc, hH_0cccc, hU_0cccc, hB_0cccc⟩ := id hHeld
            refine wpAnyH_take (i := 8) (oi := _) (v := ?_) rfl (by kernel_rfl) (by kernel_rfl) (by kernel_rfl) (fun _ _ _ h => h) (Or.inl ⟨by rfl, ?_⟩) (by assumption) ?_
            (rotate_left); (focus (intro wv hSw; (obtain ⟨qP, qQ, qR, qH, qU, qB⟩ := hSw); obtain ⟨_, _, _, _, _⟩ := blk2 qP; obtain ⟨_, _, _, _, _, _, _, _, _, _, _⟩ := blk5 qQ; obtain ⟨_, _, _, _, _, _, _⟩ := blk3 qR; obtain ⟨_, _, _, _, _, _, _, _, _, _, _⟩ := blk5 qH; obtain ⟨_, _, _, _, _, _, _⟩ := blk3 qU; go_simp; (try with_reducible rfl)))
            try simp only [Act.put, List.getElem_toArray, List.getElem_cons_succ, List.getElem_cons_zero, List.setIfInBounds_toArray, List.set_cons_zero, List.set_cons_succ]
            refine wpAnyH_done (by kernel_rfl) ?_ _
            have hP14 := hP_0cccc
            have hQ14 := hQ_0cccc
            have hR14 := hR_0cccc
            have hH14 := hH_0cccc
            have hU14 := hU_0cccc
            have hB14 := hB_0cccc
            clear hP_0 hQ_0 hR_0 hH_0 hU_0 hB_0 hP_0c hQ_0c hR_0c hH_0c hU_0c hB_0c hP_0cc hQ_0cc hR_0cc hH_0cc hU_0cc hB_0cc hP_0ccc hQ_0ccc hR_0ccc hH_0ccc hU_0ccc hB_0ccc hP_0cccc hQ_0cccc hR_0cccc hH_0cccc hU_0cccc hB_0cccc hHeld
            cases s
            · go_wp2
              go_ret
              exact ⟨rfl, by first | exact hB14 | exact hB14.drew⟩
            · cases hv
              · obtain ⟨cP14_0, cP14_1, fP14_0, fP14_1, zP14⟩ := blk2 hP14
                obtain ⟨cH14_0, cH14_1, cH14_2, cH14_3, cH14_4, fH14_0, fH14_1, fH14_2, fH14_3, fH14_4, zH14⟩ := blk5 hH14
                obtain ⟨cR14_0, cR14_1, cR14_2, fR14_0, fR14_1, fR14_2, zR14⟩ := blk3 hR14
                go_wp2_with fail
                refine (iBV_is _ HHV.out).mono ?_; rintro e' w15 ⟨rfl, hw15⟩
                have hP15 := blk_next hP14 hw15
                have hQ15 := blk_next hQ14 hw15
                have hR15 := blk_next hR14 hw15
                have hH15 := blk_next hH14 hw15
                have hU15 := blk_next hU14 hw15
                have hB15 := bel_next hB14 hw15
                obtain ⟨cU15_0, cU15_1, cU15_2, fU15_0, fU15_1, fU15_2, zU15⟩ := blk3 hU15
                go_wp2_with fail
                refine (iRV_is _ HUV.out).mono ?_; rintro e' w16 ⟨rfl, hw16⟩
                have hP16 := blk_next hP15 hw16
                have hQ16 := blk_next hQ15 hw16
                have hR16 := blk_next hR15 hw16
                have hH16 := blk_next hH15 hw16
                have hU16 := blk_next hU15 hw16
                have hB16 := bel_next hB15 hw16
                cases uv
                · go_wp2
                  go_ret
                  exact ⟨rfl, by first | exact hB16 | exact hB16.drew⟩
                · obtain ⟨cP16_0, cP16_1, fP16_0, fP16_1, zP16⟩ := blk2 hP16
                  obtain ⟨cQ16_0, cQ16_1, cQ16_2, cQ16_3, cQ16_4, fQ16_0, fQ16_1, fQ16_2, fQ16_3, fQ16_4, zQ16⟩ := blk5 hQ16
                  obtain ⟨cU16_0, cU16_1, cU16_2, fU16_0, fU16_1, fU16_2, zU16⟩ := blk3 hU16
                  go_wp2_with fail
                  refine (iSh_is _ (HU.out (by trivial) (by trivial))).mono ?_; rintro e' w17 ⟨rfl, hw17⟩
                  have hP17 := blk_next hP16 hw17
                  have hQ17 := blk_next hQ16 hw17
                  have hR17 := blk_next hR16 hw17
                  have hH17 := blk_next hH16 hw17
                  have hU17 := blk_next hU16 hw17
                  have hB17 := bel_next hB16 hw17
                  go_wp2
                  go_ret
                  exact ⟨rfl, by first | exact hB17 | exact hB17.drew⟩
              · obtain ⟨cP14_0, cP14_1, fP14_0, fP14_1, zP14⟩ := blk2 hP14
                obtain ⟨cH14_0, cH14_1, cH14_2, cH14_3, cH14_4, fH14_0, fH14_1, fH14_2, fH14_3, fH14_4, zH14⟩ := blk5 hH14
                obtain ⟨cR14_0, cR14_1, cR14_2, fR14_0, fR14_1, fR14_2, zR14⟩ := blk3 hR14
                go_wp2_with fail
                refine (iBV_is _ HHV.out).mono ?_; rintro e' w15 ⟨rfl, hw15⟩
                have hP15 := blk_next hP14 hw15
                have hQ15 := blk_next hQ14 hw15
                have hR15 := blk_next hR14 hw15
                have hH15 := blk_next hH14 hw15
                have hU15 := blk_next hU14 hw15
                have hB15 := bel_next hB14 hw15
                obtain ⟨cP15_0, cP15_1, fP15_0, fP15_1, zP15⟩ := blk2 hP15
                obtain ⟨cH15_0, cH15_1, cH15_2, cH15_3, cH15_4, fH15_0, fH15_1, fH15_2, fH15_3, fH15_4, zH15⟩ := blk5 hH15
                obtain ⟨cR15_0, cR15_1, cR15_2, fR15_0, fR15_1, fR15_2, zR15⟩ := blk3 hR15
                go_wp2_with fail
                refine (iSh_is _ (HH.out (by trivial) (by trivial))).mono ?_; rintro e' w16 ⟨rfl, hw16⟩
                have hP16 := blk_next hP15 hw16
                have hQ16 := blk_next hQ15 hw16
                have hR16 := blk_next hR15 hw16
                have hH16 := blk_next hH15 hw16
                have hU16 := blk_next hU15 hw16
                have hB16 := bel_next hB15 hw16
                obtain ⟨cU16_0, cU16_1, cU16_2, fU16_0, fU16_1, fU16_2, zU16⟩ := blk3 hU16
                go_wp2_with fail
                refine (iRV_is _ HUV.out).mono ?_; rintro e' w17 ⟨rfl, hw17⟩
                have hP17 := blk_next hP16 hw17
                have hQ17 := blk_next hQ16 hw17
                have hR17 := blk_next hR16 hw17
                have hH17 := blk_next hH16 hw17
                have hU17 := blk_next hU16 hw17
                have hB17 := bel_next hB16 hw17
                cases uv
                · go_wp2
                  go_ret
                  exact ⟨rfl, by first | exact hB17 | exact hB17.drew⟩
                · obtain ⟨cP17_0, cP17_1, fP17_0, fP17_1, zP17⟩ := blk2 hP17
                  obtain ⟨cQ17_0, cQ17_1, cQ17_2, cQ17_3, cQ17_4, fQ17_0, fQ17_1, fQ17_2, fQ17_3, fQ17_4, zQ17⟩ := blk5 hQ17
                  obtain ⟨cU17_0, cU17_1, cU17_2, fU17_0, fU17_1, fU17_2, zU17⟩ := blk3 hU17
                  go_wp2_with fail
                  refine (iSh_is _ (HU.out (by trivial) (by trivial))).mono ?_; rintro e' w18 ⟨rfl, hw18⟩
                  have hP18 := blk_next hP17 hw18
                  have hQ18 := blk_next hQ17 hw18
                  have hR18 := blk_next hR17 hw18
                  have hH18 := blk_next hH17 hw18
                  have hU18 := blk_next hU17 hw18
                  have hB18 := bel_next hB17 hw18
                  go_wp2
                  go_ret
                  exact ⟨rfl, by first | exact hB18 | exact hB18.drew⟩

set_option maxRecDepth 100000 in
theorem lifted (os : Os) (started : os.Started) (H : Type) (enc : TypeId × Value → H) :
    ReturnsInHanded {} Try.checked os 3 .any (Rows.fnInShadowSpec.pre6 enc Try.prog Try.f3 Rows.fnInShadowRow.domain false) (Rows.fnInShadowSpec.post enc Try.prog Try.f3 false true false false) := by
  refine returnsInHanded_of_change (C := Try.checked) own started (by kernel_rfl) Try.func3
    (ChangeSpec.witness6 (enc := enc) (C := Try.checked) false ⟨#[], #[.slice none 0 0], []⟩ 8 (by kernel_rfl) (by kernel_rfl) (by kernel_rfl) (by kernel_rfl)) ?_
  intro W base args ds gs before hval0 hW hcnd _
  have hval : ∀ (j : Nat) t v, Try.f3.params[j]? = some t → args[j]? = some v → Value.okWide Try.prog W .any base t v := hval0
  have hW' := hW
  obtain ⟨p, q, hA0, hV, rfl, hfz, hnd⟩ := hW
  have hA : DataW.TrodAll enc Try.prog W 0 (fun _ => true) true Try.f3.params.toList args.toList ds p := hA0
  rw [Try.params3] at hA hval
  obtain ⟨v0, vs0, d0, ds0, p0, q0, hargs, rfl, rfl, h0, r0⟩ := trodAll_cons hA
  obtain ⟨rfl, rfl, rfl⟩ := trodAll_nil r0
  obtain rfl : args = #[v0] := by cases args; simp_all
  obtain ⟨rfl, rfl⟩ := trodVars_none hV
  have k0 := h0
  have lt0 : ∀ x ∈ p0, x.block < W.heap.size := by obtain ⟨m, hm⟩ := k0; exact DataW.trod_lt m _ _ _ hm
  obtain ⟨a0, len0, cap0, rfl⟩ := okWide_slice Try.underlying22 (hval 0 22 v0 rfl rfl)
  have w0 : CodeOk W a0 len0 cap0 := by
    obtain ⟨fuel, hf⟩ := h0
    rcases open_ints Try.underlying22 Try.underlying5 (by kernel_rfl) hf with ⟨hcs, _⟩ | ⟨x, l, c, zs, hcs, _, hl, hm, hz, _, hcell, hwz⟩
    · simp [Value.cells] at hcs
      obtain ⟨rfl, rfl, rfl⟩ := hcs
      exact code_nil W
    · simp [Value.cells] at hcs
      obtain ⟨rfl, rfl, rfl⟩ := hcs
      exact code_ok hl hm (by simp at hz; omega) hcell hwz
  clear hA0 hval0
  refine (walk W a0 len0 cap0 w0).mono fun e W' ⟨he, bel⟩ => ?_
  subst he
  exact ⟨_, rfl, _, _, _, [], _, [], hW', trodAll_mk1 (shut_bool Try.underlying4 _), (trodAll_cons_mk (Below.trod laidOut (by kernel_rfl) (of_decide_eq_true (by kernel_rfl)) k0 bel lt0) trodAll_mk0), rfl, bel.frame _, fun h => by cases h⟩

theorem over : Rows.fnInShadowRow.holds Try.pinned (OpenSpec.ofChange Rows.fnInShadowSpec) :=
  OpenClaim.holds_of_wide 3 Try.f3 rfl rfl rfl rfl rfl rfl rfl ⟨rfl, rfl, rfl, rfl, rfl⟩ rfl rfl rfl rfl rfl (by kernel_rfl) Try.func3 (by kernel_rfl)
    (of_decide_eq_true (by kernel_rfl)) (by unfold Func.isWrapper; first | (rw [if_pos (by decide +kernel)]; kernel_rfl) | (rw [if_neg (by decide +kernel)]; exact ⟨rfl, rfl⟩))
    (fun os started H enc _ => lifted os started H enc)

/-- The statement. -/
theorem proved : Rows.FnInShadowSaid :=
  over
#print axioms proved
end Go.Proofs.Ytlahjgjjebkpjab.fnInShadow
