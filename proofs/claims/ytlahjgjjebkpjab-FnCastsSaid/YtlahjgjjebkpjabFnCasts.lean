/- FnCasts: whatever the input, the law returns true, and its arguments read as they did. No conditions beyond those of the statement's row. -/
import Derived.Test.YtlahjgjjebkpjabDd
import Derived.Test.YtlahjgjjebkpjabVf
namespace Go.Proofs.Ytlahjgjjebkpjab.fnCasts
open Go.Proofs.Ytlahjgjjebkpjab
open Go.ChangeShapes Go.WideShapes Go.ChangeAt Go.RowKit Go.Joins
set_option linter.unusedVariables false
set_option linter.unusedSimpArgs false
set_option linter.unnecessarySimpa false

theorem own : ownKnob Try.prog.godebug = none := by kernel_rfl
theorem laidOut : laidOutB Try.prog = true := by kernel_rfl

set_option maxRecDepth 100000 in
set_option maxHeartbeats 4000000 in
theorem walk (w : World) (a0 : Option Addr) (len0 cap0 : Nat) (w0 : CodeOk w a0 len0 cap0) :
    Calls Try.prog 4 #[.slice a0 len0 cap0] w fun e w' => e = .returned (.bool true) ∧ Below w.heap.size w w' := by
  by_cases hl : 1048576 < len0
  · have w0' := w0.2.1
    unfold maxLen at w0'
    clear w0
    go_enter Try.func4, Try.ntmps4
    go_wp2
    go_ret
    exact ⟨rfl, Below.refl _ _⟩
  · have w0' := w0.2.1
    unfold maxLen at w0'
    have hle := w0.1
    have HW := Lib.hid w0
    clear w0
    go_enter Try.func4, Try.ntmps4
    go_wp2_with fail
    refine (drCasts_any _ _ _ _ HW.out).mono ?_; rintro e w1 ⟨b0, b1, b2, b3, b4, c0, c1, c2, c3, c4, r0, r1, r2, rfl, ⟨b0_0, b0_1⟩, ⟨b1_0, b1_1⟩, ⟨b2_0, b2_1⟩, ⟨b3_0, b3_1⟩, ⟨b4_0, b4_1⟩, ⟨c0_0, c0_1⟩, ⟨c1_0, c1_1⟩, ⟨c2_0, c2_1⟩, ⟨c3_0, c3_1⟩, ⟨c4_0, c4_1⟩, ⟨r0_0, r0_1⟩, ⟨r1_0, r1_1⟩, ⟨r2_0, r2_1⟩, hB0⟩
    cases va : blB b0 b1 b2 b3 b4
    · have HS : Hid (csB b0 b1 b2 b3 b4 c0 c1 c2 c3 c4 r0 r1 r2 = false) := by show _ = _; unfold csB; simp [shB_f2 va]
      have HVA := Lib.hid va
      clear va
      have hP1 : (w1.alloc (.cells #[.int .i64 b0, .int .i64 b1, .int .i64 b2, .int .i64 b3, .int .i64 b4] 26)).heap[w1.heap.size]? = some (.cells #[.int .i64 b0, .int .i64 b1, .int .i64 b2, .int .i64 b3, .int .i64 b4] 26) := by have := blk_new w1 (.cells #[.int .i64 b0, .int .i64 b1, .int .i64 b2, .int .i64 b3, .int .i64 b4] 26); simpa using this
      have hB1 := hB0.alloc hB0.size (.cells #[.int .i64 b0, .int .i64 b1, .int .i64 b2, .int .i64 b3, .int .i64 b4] 26)
      have zBP := hB0.size
      have zPQ := blk_lt hP1
      have hQ2 : ((w1.alloc (.cells #[.int .i64 b0, .int .i64 b1, .int .i64 b2, .int .i64 b3, .int .i64 b4] 26)).alloc (.cells #[.int .i64 c0, .int .i64 c1, .int .i64 c2, .int .i64 c3, .int .i64 c4] 26)).heap[w1.heap.size + 1]? = some (.cells #[.int .i64 c0, .int .i64 c1, .int .i64 c2, .int .i64 c3, .int .i64 c4] 26) := by have := blk_new (w1.alloc (.cells #[.int .i64 b0, .int .i64 b1, .int .i64 b2, .int .i64 b3, .int .i64 b4] 26)) (.cells #[.int .i64 c0, .int .i64 c1, .int .i64 c2, .int .i64 c3, .int .i64 c4] 26); simpa using this
      have hP2 := blk_old hP1 (.cells #[.int .i64 c0, .int .i64 c1, .int .i64 c2, .int .i64 c3, .int .i64 c4] 26)
      have hB2 := hB1.alloc hB1.size (.cells #[.int .i64 c0, .int .i64 c1, .int .i64 c2, .int .i64 c3, .int .i64 c4] 26)
      have zBQ := hB1.size
      have zPR := blk_lt hP2
      have zQR := blk_lt hQ2
      have hR3 : (((w1.alloc (.cells #[.int .i64 b0, .int .i64 b1, .int .i64 b2, .int .i64 b3, .int .i64 b4] 26)).alloc (.cells #[.int .i64 c0, .int .i64 c1, .int .i64 c2, .int .i64 c3, .int .i64 c4] 26)).alloc (.cells #[.int .i64 r0, .int .i64 r1, .int .i64 r2] 28)).heap[w1.heap.size + 1 + 1]? = some (.cells #[.int .i64 r0, .int .i64 r1, .int .i64 r2] 28) := by have := blk_new ((w1.alloc (.cells #[.int .i64 b0, .int .i64 b1, .int .i64 b2, .int .i64 b3, .int .i64 b4] 26)).alloc (.cells #[.int .i64 c0, .int .i64 c1, .int .i64 c2, .int .i64 c3, .int .i64 c4] 26)) (.cells #[.int .i64 r0, .int .i64 r1, .int .i64 r2] 28); simpa using this
      have hP3 := blk_old hP2 (.cells #[.int .i64 r0, .int .i64 r1, .int .i64 r2] 28)
      have hQ3 := blk_old hQ2 (.cells #[.int .i64 r0, .int .i64 r1, .int .i64 r2] 28)
      have hB3 := hB2.alloc hB2.size (.cells #[.int .i64 r0, .int .i64 r1, .int .i64 r2] 28)
      have zBR := hB2.size
      obtain ⟨cP3_0, cP3_1, cP3_2, cP3_3, cP3_4, fP3_0, fP3_1, fP3_2, fP3_3, fP3_4, zP3⟩ := blk5 hP3
      obtain ⟨cQ3_0, cQ3_1, cQ3_2, cQ3_3, cQ3_4, fQ3_0, fQ3_1, fQ3_2, fQ3_3, fQ3_4, zQ3⟩ := blk5 hQ3
      obtain ⟨cR3_0, cR3_1, cR3_2, fR3_0, fR3_1, fR3_2, zR3⟩ := blk3 hR3
      go_wp2_with fail
      refine (iCs_is _ HS.out).mono ?_; rintro e' w4 ⟨rfl, hw4⟩
      have hP4 := blk_next hP3 hw4
      have hQ4 := blk_next hQ3 hw4
      have hR4 := blk_next hR3 hw4
      have hB4 := bel_next hB3 hw4
      obtain ⟨cP4_0, cP4_1, cP4_2, cP4_3, cP4_4, fP4_0, fP4_1, fP4_2, fP4_3, fP4_4, zP4⟩ := blk5 hP4
      obtain ⟨cQ4_0, cQ4_1, cQ4_2, cQ4_3, cQ4_4, fQ4_0, fQ4_1, fQ4_2, fQ4_3, fQ4_4, zQ4⟩ := blk5 hQ4
      obtain ⟨cR4_0, cR4_1, cR4_2, fR4_0, fR4_1, fR4_2, zR4⟩ := blk3 hR4
      go_wp2_with fail
      refine (sCs_is _ HS.out).mono ?_; rintro e' w5 ⟨rfl, hw5⟩
      have hP5 := blk_next hP4 hw5
      have hQ5 := blk_next hQ4 hw5
      have hR5 := blk_next hR4 hw5
      have hB5 := bel_next hB4 hw5
      obtain ⟨cP5_0, cP5_1, cP5_2, cP5_3, cP5_4, fP5_0, fP5_1, fP5_2, fP5_3, fP5_4, zP5⟩ := blk5 hP5
      go_wp2_with fail
      refine (sBV_is _ HVA.out).mono ?_; rintro e' w6 ⟨rfl, hw6⟩
      have hP6 := blk_next hP5 hw6
      have hQ6 := blk_next hQ5 hw6
      have hR6 := blk_next hR5 hw6
      have hB6 := bel_next hB5 hw6
      go_wp2_with fail
      refine (alive_bel _).mono ?_; rintro e' w7 ⟨rfl, hw7⟩
      have hP7 := blk_next hP6 hw7
      have hQ7 := blk_next hQ6 hw7
      have hR7 := blk_next hR6 hw7
      have hB7 := bel_next hB6 hw7
      go_wp2
      go_ret
      exact ⟨rfl, by first | exact hB7 | exact hB7.drew⟩
    · skip
      cases vb : blB c0 c1 c2 c3 c4
      · have HS : Hid (csB b0 b1 b2 b3 b4 c0 c1 c2 c3 c4 r0 r1 r2 = false) := by show _ = _; unfold csB; rw [vb]; rfl
        have HVA := Lib.hid va
        have HVB := Lib.hid vb
        clear va vb
        have hP1 : (w1.alloc (.cells #[.int .i64 b0, .int .i64 b1, .int .i64 b2, .int .i64 b3, .int .i64 b4] 26)).heap[w1.heap.size]? = some (.cells #[.int .i64 b0, .int .i64 b1, .int .i64 b2, .int .i64 b3, .int .i64 b4] 26) := by have := blk_new w1 (.cells #[.int .i64 b0, .int .i64 b1, .int .i64 b2, .int .i64 b3, .int .i64 b4] 26); simpa using this
        have hB1 := hB0.alloc hB0.size (.cells #[.int .i64 b0, .int .i64 b1, .int .i64 b2, .int .i64 b3, .int .i64 b4] 26)
        have zBP := hB0.size
        have zPQ := blk_lt hP1
        have hQ2 : ((w1.alloc (.cells #[.int .i64 b0, .int .i64 b1, .int .i64 b2, .int .i64 b3, .int .i64 b4] 26)).alloc (.cells #[.int .i64 c0, .int .i64 c1, .int .i64 c2, .int .i64 c3, .int .i64 c4] 26)).heap[w1.heap.size + 1]? = some (.cells #[.int .i64 c0, .int .i64 c1, .int .i64 c2, .int .i64 c3, .int .i64 c4] 26) := by have := blk_new (w1.alloc (.cells #[.int .i64 b0, .int .i64 b1, .int .i64 b2, .int .i64 b3, .int .i64 b4] 26)) (.cells #[.int .i64 c0, .int .i64 c1, .int .i64 c2, .int .i64 c3, .int .i64 c4] 26); simpa using this
        have hP2 := blk_old hP1 (.cells #[.int .i64 c0, .int .i64 c1, .int .i64 c2, .int .i64 c3, .int .i64 c4] 26)
        have hB2 := hB1.alloc hB1.size (.cells #[.int .i64 c0, .int .i64 c1, .int .i64 c2, .int .i64 c3, .int .i64 c4] 26)
        have zBQ := hB1.size
        have zPR := blk_lt hP2
        have zQR := blk_lt hQ2
        have hR3 : (((w1.alloc (.cells #[.int .i64 b0, .int .i64 b1, .int .i64 b2, .int .i64 b3, .int .i64 b4] 26)).alloc (.cells #[.int .i64 c0, .int .i64 c1, .int .i64 c2, .int .i64 c3, .int .i64 c4] 26)).alloc (.cells #[.int .i64 r0, .int .i64 r1, .int .i64 r2] 28)).heap[w1.heap.size + 1 + 1]? = some (.cells #[.int .i64 r0, .int .i64 r1, .int .i64 r2] 28) := by have := blk_new ((w1.alloc (.cells #[.int .i64 b0, .int .i64 b1, .int .i64 b2, .int .i64 b3, .int .i64 b4] 26)).alloc (.cells #[.int .i64 c0, .int .i64 c1, .int .i64 c2, .int .i64 c3, .int .i64 c4] 26)) (.cells #[.int .i64 r0, .int .i64 r1, .int .i64 r2] 28); simpa using this
        have hP3 := blk_old hP2 (.cells #[.int .i64 r0, .int .i64 r1, .int .i64 r2] 28)
        have hQ3 := blk_old hQ2 (.cells #[.int .i64 r0, .int .i64 r1, .int .i64 r2] 28)
        have hB3 := hB2.alloc hB2.size (.cells #[.int .i64 r0, .int .i64 r1, .int .i64 r2] 28)
        have zBR := hB2.size
        obtain ⟨cP3_0, cP3_1, cP3_2, cP3_3, cP3_4, fP3_0, fP3_1, fP3_2, fP3_3, fP3_4, zP3⟩ := blk5 hP3
        obtain ⟨cQ3_0, cQ3_1, cQ3_2, cQ3_3, cQ3_4, fQ3_0, fQ3_1, fQ3_2, fQ3_3, fQ3_4, zQ3⟩ := blk5 hQ3
        obtain ⟨cR3_0, cR3_1, cR3_2, fR3_0, fR3_1, fR3_2, zR3⟩ := blk3 hR3
        go_wp2_with fail
        refine (iCs_is _ HS.out).mono ?_; rintro e' w4 ⟨rfl, hw4⟩
        have hP4 := blk_next hP3 hw4
        have hQ4 := blk_next hQ3 hw4
        have hR4 := blk_next hR3 hw4
        have hB4 := bel_next hB3 hw4
        obtain ⟨cP4_0, cP4_1, cP4_2, cP4_3, cP4_4, fP4_0, fP4_1, fP4_2, fP4_3, fP4_4, zP4⟩ := blk5 hP4
        obtain ⟨cQ4_0, cQ4_1, cQ4_2, cQ4_3, cQ4_4, fQ4_0, fQ4_1, fQ4_2, fQ4_3, fQ4_4, zQ4⟩ := blk5 hQ4
        obtain ⟨cR4_0, cR4_1, cR4_2, fR4_0, fR4_1, fR4_2, zR4⟩ := blk3 hR4
        go_wp2_with fail
        refine (sCs_is _ HS.out).mono ?_; rintro e' w5 ⟨rfl, hw5⟩
        have hP5 := blk_next hP4 hw5
        have hQ5 := blk_next hQ4 hw5
        have hR5 := blk_next hR4 hw5
        have hB5 := bel_next hB4 hw5
        obtain ⟨cP5_0, cP5_1, cP5_2, cP5_3, cP5_4, fP5_0, fP5_1, fP5_2, fP5_3, fP5_4, zP5⟩ := blk5 hP5
        go_wp2_with fail
        refine (sBV_is _ HVA.out).mono ?_; rintro e' w6 ⟨rfl, hw6⟩
        have hP6 := blk_next hP5 hw6
        have hQ6 := blk_next hQ5 hw6
        have hR6 := blk_next hR5 hw6
        have hB6 := bel_next hB5 hw6
        obtain ⟨cQ6_0, cQ6_1, cQ6_2, cQ6_3, cQ6_4, fQ6_0, fQ6_1, fQ6_2, fQ6_3, fQ6_4, zQ6⟩ := blk5 hQ6
        go_wp2_with fail
        refine (sBV_is _ HVB.out).mono ?_; rintro e' w7 ⟨rfl, hw7⟩
        have hP7 := blk_next hP6 hw7
        have hQ7 := blk_next hQ6 hw7
        have hR7 := blk_next hR6 hw7
        have hB7 := bel_next hB6 hw7
        go_wp2_with fail
        refine (alive_bel _).mono ?_; rintro e' w8 ⟨rfl, hw8⟩
        have hP8 := blk_next hP7 hw8
        have hQ8 := blk_next hQ7 hw8
        have hR8 := blk_next hR7 hw8
        have hB8 := bel_next hB7 hw8
        go_wp2
        go_ret
        exact ⟨rfl, by first | exact hB8 | exact hB8.drew⟩
      · skip
        cases vr : ryB r0 r1 r2
        · have HS : Hid (csB b0 b1 b2 b3 b4 c0 c1 c2 c3 c4 r0 r1 r2 = false) := by show _ = _; unfold csB; simp [shB_f3 vr]
          have HVA := Lib.hid va
          have HVB := Lib.hid vb
          have HVR := Lib.hid vr
          clear va vb vr
          have hP1 : (w1.alloc (.cells #[.int .i64 b0, .int .i64 b1, .int .i64 b2, .int .i64 b3, .int .i64 b4] 26)).heap[w1.heap.size]? = some (.cells #[.int .i64 b0, .int .i64 b1, .int .i64 b2, .int .i64 b3, .int .i64 b4] 26) := by have := blk_new w1 (.cells #[.int .i64 b0, .int .i64 b1, .int .i64 b2, .int .i64 b3, .int .i64 b4] 26); simpa using this
          have hB1 := hB0.alloc hB0.size (.cells #[.int .i64 b0, .int .i64 b1, .int .i64 b2, .int .i64 b3, .int .i64 b4] 26)
          have zBP := hB0.size
          have zPQ := blk_lt hP1
          have hQ2 : ((w1.alloc (.cells #[.int .i64 b0, .int .i64 b1, .int .i64 b2, .int .i64 b3, .int .i64 b4] 26)).alloc (.cells #[.int .i64 c0, .int .i64 c1, .int .i64 c2, .int .i64 c3, .int .i64 c4] 26)).heap[w1.heap.size + 1]? = some (.cells #[.int .i64 c0, .int .i64 c1, .int .i64 c2, .int .i64 c3, .int .i64 c4] 26) := by have := blk_new (w1.alloc (.cells #[.int .i64 b0, .int .i64 b1, .int .i64 b2, .int .i64 b3, .int .i64 b4] 26)) (.cells #[.int .i64 c0, .int .i64 c1, .int .i64 c2, .int .i64 c3, .int .i64 c4] 26); simpa using this
          have hP2 := blk_old hP1 (.cells #[.int .i64 c0, .int .i64 c1, .int .i64 c2, .int .i64 c3, .int .i64 c4] 26)
          have hB2 := hB1.alloc hB1.size (.cells #[.int .i64 c0, .int .i64 c1, .int .i64 c2, .int .i64 c3, .int .i64 c4] 26)
          have zBQ := hB1.size
          have zPR := blk_lt hP2
          have zQR := blk_lt hQ2
          have hR3 : (((w1.alloc (.cells #[.int .i64 b0, .int .i64 b1, .int .i64 b2, .int .i64 b3, .int .i64 b4] 26)).alloc (.cells #[.int .i64 c0, .int .i64 c1, .int .i64 c2, .int .i64 c3, .int .i64 c4] 26)).alloc (.cells #[.int .i64 r0, .int .i64 r1, .int .i64 r2] 28)).heap[w1.heap.size + 1 + 1]? = some (.cells #[.int .i64 r0, .int .i64 r1, .int .i64 r2] 28) := by have := blk_new ((w1.alloc (.cells #[.int .i64 b0, .int .i64 b1, .int .i64 b2, .int .i64 b3, .int .i64 b4] 26)).alloc (.cells #[.int .i64 c0, .int .i64 c1, .int .i64 c2, .int .i64 c3, .int .i64 c4] 26)) (.cells #[.int .i64 r0, .int .i64 r1, .int .i64 r2] 28); simpa using this
          have hP3 := blk_old hP2 (.cells #[.int .i64 r0, .int .i64 r1, .int .i64 r2] 28)
          have hQ3 := blk_old hQ2 (.cells #[.int .i64 r0, .int .i64 r1, .int .i64 r2] 28)
          have hB3 := hB2.alloc hB2.size (.cells #[.int .i64 r0, .int .i64 r1, .int .i64 r2] 28)
          have zBR := hB2.size
          obtain ⟨cP3_0, cP3_1, cP3_2, cP3_3, cP3_4, fP3_0, fP3_1, fP3_2, fP3_3, fP3_4, zP3⟩ := blk5 hP3
          obtain ⟨cQ3_0, cQ3_1, cQ3_2, cQ3_3, cQ3_4, fQ3_0, fQ3_1, fQ3_2, fQ3_3, fQ3_4, zQ3⟩ := blk5 hQ3
          obtain ⟨cR3_0, cR3_1, cR3_2, fR3_0, fR3_1, fR3_2, zR3⟩ := blk3 hR3
          go_wp2_with fail
          refine (iCs_is _ HS.out).mono ?_; rintro e' w4 ⟨rfl, hw4⟩
          have hP4 := blk_next hP3 hw4
          have hQ4 := blk_next hQ3 hw4
          have hR4 := blk_next hR3 hw4
          have hB4 := bel_next hB3 hw4
          obtain ⟨cP4_0, cP4_1, cP4_2, cP4_3, cP4_4, fP4_0, fP4_1, fP4_2, fP4_3, fP4_4, zP4⟩ := blk5 hP4
          obtain ⟨cQ4_0, cQ4_1, cQ4_2, cQ4_3, cQ4_4, fQ4_0, fQ4_1, fQ4_2, fQ4_3, fQ4_4, zQ4⟩ := blk5 hQ4
          obtain ⟨cR4_0, cR4_1, cR4_2, fR4_0, fR4_1, fR4_2, zR4⟩ := blk3 hR4
          go_wp2_with fail
          refine (sCs_is _ HS.out).mono ?_; rintro e' w5 ⟨rfl, hw5⟩
          have hP5 := blk_next hP4 hw5
          have hQ5 := blk_next hQ4 hw5
          have hR5 := blk_next hR4 hw5
          have hB5 := bel_next hB4 hw5
          obtain ⟨cP5_0, cP5_1, cP5_2, cP5_3, cP5_4, fP5_0, fP5_1, fP5_2, fP5_3, fP5_4, zP5⟩ := blk5 hP5
          go_wp2_with fail
          refine (sBV_is _ HVA.out).mono ?_; rintro e' w6 ⟨rfl, hw6⟩
          have hP6 := blk_next hP5 hw6
          have hQ6 := blk_next hQ5 hw6
          have hR6 := blk_next hR5 hw6
          have hB6 := bel_next hB5 hw6
          obtain ⟨cQ6_0, cQ6_1, cQ6_2, cQ6_3, cQ6_4, fQ6_0, fQ6_1, fQ6_2, fQ6_3, fQ6_4, zQ6⟩ := blk5 hQ6
          go_wp2_with fail
          refine (sBV_is _ HVB.out).mono ?_; rintro e' w7 ⟨rfl, hw7⟩
          have hP7 := blk_next hP6 hw7
          have hQ7 := blk_next hQ6 hw7
          have hR7 := blk_next hR6 hw7
          have hB7 := bel_next hB6 hw7
          obtain ⟨cR7_0, cR7_1, cR7_2, fR7_0, fR7_1, fR7_2, zR7⟩ := blk3 hR7
          go_wp2_with fail
          refine (sRV_is _ HVR.out).mono ?_; rintro e' w8 ⟨rfl, hw8⟩
          have hP8 := blk_next hP7 hw8
          have hQ8 := blk_next hQ7 hw8
          have hR8 := blk_next hR7 hw8
          have hB8 := bel_next hB7 hw8
          go_wp2_with fail
          refine (alive_bel _).mono ?_; rintro e' w9 ⟨rfl, hw9⟩
          have hP9 := blk_next hP8 hw9
          have hQ9 := blk_next hQ8 hw9
          have hR9 := blk_next hR8 hw9
          have hB9 := bel_next hB8 hw9
          go_wp2
          go_ret
          exact ⟨rfl, by first | exact hB9 | exact hB9.drew⟩
        · have ba := blB_iff.1 va
          have bb := blB_iff.1 vb
          have br := ryB_iff.1 vr
          obtain ⟨s, hs⟩ : ∃ z, csB b0 b1 b2 b3 b4 c0 c1 c2 c3 c4 r0 r1 r2 = z := ⟨_, rfl⟩
          have HS := Lib.hid hs
          obtain ⟨hv, hhv⟩ : ∃ z, blB b0 b1 b2 b3 (b4 + 1) = z := ⟨_, rfl⟩
          have HHV := Lib.hid hhv
          have HF : Hid (csB b0 b1 b2 b3 b4 b0 b1 b2 b3 b4 r0 r1 r2 = true) := by show _ = _; unfold csB; rw [va, sh_under (pe := b0) (pn := b2) (unB_iff.2 ⟨plB_iff.2 (by omega), va, by omega, by omega, by omega, by omega⟩) vr]; rfl
          have hH : s = true → hv = true → csB b0 b1 b2 b3 (b4 + 1) c0 c1 c2 c3 c4 r0 r1 r2 = true := fun h k => by
            rw [h] at hs
            rw [k] at hhv
            unfold csB at hs ⊢
            simp only [Bool.and_eq_true, Bool.or_eq_true] at hs ⊢
            refine ⟨hs.1, ?_⟩
            rcases hs.2 with e | e | e | e
            · exact .inl (sh_high hhv e)
            · exact .inr (.inl (sh_high hhv e))
            · exact .inr (.inr (.inl (sh_high hhv e)))
            · exact .inr (.inr (.inr (sh_high hhv e)))
          have HVA := Lib.hid va
          have HVB := Lib.hid vb
          have HVR := Lib.hid vr
          clear va vb vr hs hhv
          have HH := Lib.hid hH
          clear hH
          have hP1 : (w1.alloc (.cells #[.int .i64 b0, .int .i64 b1, .int .i64 b2, .int .i64 b3, .int .i64 b4] 26)).heap[w1.heap.size]? = some (.cells #[.int .i64 b0, .int .i64 b1, .int .i64 b2, .int .i64 b3, .int .i64 b4] 26) := by have := blk_new w1 (.cells #[.int .i64 b0, .int .i64 b1, .int .i64 b2, .int .i64 b3, .int .i64 b4] 26); simpa using this
          have hB1 := hB0.alloc hB0.size (.cells #[.int .i64 b0, .int .i64 b1, .int .i64 b2, .int .i64 b3, .int .i64 b4] 26)
          have zBP := hB0.size
          have zPQ := blk_lt hP1
          have hQ2 : ((w1.alloc (.cells #[.int .i64 b0, .int .i64 b1, .int .i64 b2, .int .i64 b3, .int .i64 b4] 26)).alloc (.cells #[.int .i64 c0, .int .i64 c1, .int .i64 c2, .int .i64 c3, .int .i64 c4] 26)).heap[w1.heap.size + 1]? = some (.cells #[.int .i64 c0, .int .i64 c1, .int .i64 c2, .int .i64 c3, .int .i64 c4] 26) := by have := blk_new (w1.alloc (.cells #[.int .i64 b0, .int .i64 b1, .int .i64 b2, .int .i64 b3, .int .i64 b4] 26)) (.cells #[.int .i64 c0, .int .i64 c1, .int .i64 c2, .int .i64 c3, .int .i64 c4] 26); simpa using this
          have hP2 := blk_old hP1 (.cells #[.int .i64 c0, .int .i64 c1, .int .i64 c2, .int .i64 c3, .int .i64 c4] 26)
          have hB2 := hB1.alloc hB1.size (.cells #[.int .i64 c0, .int .i64 c1, .int .i64 c2, .int .i64 c3, .int .i64 c4] 26)
          have zBQ := hB1.size
          have zPR := blk_lt hP2
          have zQR := blk_lt hQ2
          have hR3 : (((w1.alloc (.cells #[.int .i64 b0, .int .i64 b1, .int .i64 b2, .int .i64 b3, .int .i64 b4] 26)).alloc (.cells #[.int .i64 c0, .int .i64 c1, .int .i64 c2, .int .i64 c3, .int .i64 c4] 26)).alloc (.cells #[.int .i64 r0, .int .i64 r1, .int .i64 r2] 28)).heap[w1.heap.size + 1 + 1]? = some (.cells #[.int .i64 r0, .int .i64 r1, .int .i64 r2] 28) := by have := blk_new ((w1.alloc (.cells #[.int .i64 b0, .int .i64 b1, .int .i64 b2, .int .i64 b3, .int .i64 b4] 26)).alloc (.cells #[.int .i64 c0, .int .i64 c1, .int .i64 c2, .int .i64 c3, .int .i64 c4] 26)) (.cells #[.int .i64 r0, .int .i64 r1, .int .i64 r2] 28); simpa using this
          have hP3 := blk_old hP2 (.cells #[.int .i64 r0, .int .i64 r1, .int .i64 r2] 28)
          have hQ3 := blk_old hQ2 (.cells #[.int .i64 r0, .int .i64 r1, .int .i64 r2] 28)
          have hB3 := hB2.alloc hB2.size (.cells #[.int .i64 r0, .int .i64 r1, .int .i64 r2] 28)
          have zBR := hB2.size
          obtain ⟨cP3_0, cP3_1, cP3_2, cP3_3, cP3_4, fP3_0, fP3_1, fP3_2, fP3_3, fP3_4, zP3⟩ := blk5 hP3
          obtain ⟨cQ3_0, cQ3_1, cQ3_2, cQ3_3, cQ3_4, fQ3_0, fQ3_1, fQ3_2, fQ3_3, fQ3_4, zQ3⟩ := blk5 hQ3
          obtain ⟨cR3_0, cR3_1, cR3_2, fR3_0, fR3_1, fR3_2, zR3⟩ := blk3 hR3
          go_wp2_with fail
          refine (iCs_is _ HS.out).mono ?_; rintro e' w4 ⟨rfl, hw4⟩
          have hP4 := blk_next hP3 hw4
          have hQ4 := blk_next hQ3 hw4
          have hR4 := blk_next hR3 hw4
          have hB4 := bel_next hB3 hw4
          obtain ⟨cP4_0, cP4_1, cP4_2, cP4_3, cP4_4, fP4_0, fP4_1, fP4_2, fP4_3, fP4_4, zP4⟩ := blk5 hP4
          obtain ⟨cQ4_0, cQ4_1, cQ4_2, cQ4_3, cQ4_4, fQ4_0, fQ4_1, fQ4_2, fQ4_3, fQ4_4, zQ4⟩ := blk5 hQ4
          obtain ⟨cR4_0, cR4_1, cR4_2, fR4_0, fR4_1, fR4_2, zR4⟩ := blk3 hR4
          go_wp2_with fail
          refine (sCs_is _ HS.out).mono ?_; rintro e' w5 ⟨rfl, hw5⟩
          have hP5 := blk_next hP4 hw5
          have hQ5 := blk_next hQ4 hw5
          have hR5 := blk_next hR4 hw5
          have hB5 := bel_next hB4 hw5
          obtain ⟨cP5_0, cP5_1, cP5_2, cP5_3, cP5_4, fP5_0, fP5_1, fP5_2, fP5_3, fP5_4, zP5⟩ := blk5 hP5
          go_wp2_with fail
          refine (sBV_is _ HVA.out).mono ?_; rintro e' w6 ⟨rfl, hw6⟩
          have hP6 := blk_next hP5 hw6
          have hQ6 := blk_next hQ5 hw6
          have hR6 := blk_next hR5 hw6
          have hB6 := bel_next hB5 hw6
          obtain ⟨cQ6_0, cQ6_1, cQ6_2, cQ6_3, cQ6_4, fQ6_0, fQ6_1, fQ6_2, fQ6_3, fQ6_4, zQ6⟩ := blk5 hQ6
          go_wp2_with fail
          refine (sBV_is _ HVB.out).mono ?_; rintro e' w7 ⟨rfl, hw7⟩
          have hP7 := blk_next hP6 hw7
          have hQ7 := blk_next hQ6 hw7
          have hR7 := blk_next hR6 hw7
          have hB7 := bel_next hB6 hw7
          obtain ⟨cR7_0, cR7_1, cR7_2, fR7_0, fR7_1, fR7_2, zR7⟩ := blk3 hR7
          go_wp2_with fail
          refine (sRV_is _ HVR.out).mono ?_; rintro e' w8 ⟨rfl, hw8⟩
          have hP8 := blk_next hP7 hw8
          have hQ8 := blk_next hQ7 hw8
          have hR8 := blk_next hR7 hw8
          have hB8 := bel_next hB7 hw8
          obtain ⟨cP8_0, cP8_1, cP8_2, cP8_3, cP8_4, fP8_0, fP8_1, fP8_2, fP8_3, fP8_4, zP8⟩ := blk5 hP8
          have zPH := blk_lt hP8
          have zQH := blk_lt hQ8
          have zRH := blk_lt hR8
          have hH9 : (w8.alloc (.cells #[.int .i64 b0, .int .i64 b1, .int .i64 b2, .int .i64 b3, .int .i64 (b4 + 1)] 26)).heap[w8.heap.size]? = some (.cells #[.int .i64 b0, .int .i64 b1, .int .i64 b2, .int .i64 b3, .int .i64 (b4 + 1)] 26) := by have := blk_new w8 (.cells #[.int .i64 b0, .int .i64 b1, .int .i64 b2, .int .i64 b3, .int .i64 (b4 + 1)] 26); simpa using this
          have hP9 := blk_old hP8 (.cells #[.int .i64 b0, .int .i64 b1, .int .i64 b2, .int .i64 b3, .int .i64 (b4 + 1)] 26)
          have hQ9 := blk_old hQ8 (.cells #[.int .i64 b0, .int .i64 b1, .int .i64 b2, .int .i64 b3, .int .i64 (b4 + 1)] 26)
          have hR9 := blk_old hR8 (.cells #[.int .i64 b0, .int .i64 b1, .int .i64 b2, .int .i64 b3, .int .i64 (b4 + 1)] 26)
          have hB9 := hB8.alloc hB8.size (.cells #[.int .i64 b0, .int .i64 b1, .int .i64 b2, .int .i64 b3, .int .i64 (b4 + 1)] 26)
          have zBH := hB8.size
          obtain ⟨cP9_0, cP9_1, cP9_2, cP9_3, cP9_4, fP9_0, fP9_1, fP9_2, fP9_3, fP9_4, zP9⟩ := blk5 hP9
          obtain ⟨cQ9_0, cQ9_1, cQ9_2, cQ9_3, cQ9_4, fQ9_0, fQ9_1, fQ9_2, fQ9_3, fQ9_4, zQ9⟩ := blk5 hQ9
          obtain ⟨cR9_0, cR9_1, cR9_2, fR9_0, fR9_1, fR9_2, zR9⟩ := blk3 hR9
          obtain ⟨cH9_0, cH9_1, cH9_2, cH9_3, cH9_4, fH9_0, fH9_1, fH9_2, fH9_3, fH9_4, zH9⟩ := blk5 hH9
          go_wp2_with fail
          refine (iCs_is _ HF.out).mono ?_; rintro e' w10 ⟨rfl, hw10⟩
          have hP10 := blk_next hP9 hw10
          have hQ10 := blk_next hQ9 hw10
          have hR10 := blk_next hR9 hw10
          have hH10 := blk_next hH9 hw10
          have hB10 := bel_next hB9 hw10
          cases s
          · go_wp2
            go_ret
            exact ⟨rfl, by first | exact hB10 | exact hB10.drew⟩
          · obtain ⟨cP10_0, cP10_1, cP10_2, cP10_3, cP10_4, fP10_0, fP10_1, fP10_2, fP10_3, fP10_4, zP10⟩ := blk5 hP10
            obtain ⟨cQ10_0, cQ10_1, cQ10_2, cQ10_3, cQ10_4, fQ10_0, fQ10_1, fQ10_2, fQ10_3, fQ10_4, zQ10⟩ := blk5 hQ10
            obtain ⟨cR10_0, cR10_1, cR10_2, fR10_0, fR10_1, fR10_2, zR10⟩ := blk3 hR10
            obtain ⟨cH10_0, cH10_1, cH10_2, cH10_3, cH10_4, fH10_0, fH10_1, fH10_2, fH10_3, fH10_4, zH10⟩ := blk5 hH10
            go_wp2_with fail
            refine (iBV_is _ HHV.out).mono ?_; rintro e' w11 ⟨rfl, hw11⟩
            have hP11 := blk_next hP10 hw11
            have hQ11 := blk_next hQ10 hw11
            have hR11 := blk_next hR10 hw11
            have hH11 := blk_next hH10 hw11
            have hB11 := bel_next hB10 hw11
            cases hv
            · go_wp2
              go_ret
              exact ⟨rfl, by first | exact hB11 | exact hB11.drew⟩
            · obtain ⟨cH11_0, cH11_1, cH11_2, cH11_3, cH11_4, fH11_0, fH11_1, fH11_2, fH11_3, fH11_4, zH11⟩ := blk5 hH11
              obtain ⟨cQ11_0, cQ11_1, cQ11_2, cQ11_3, cQ11_4, fQ11_0, fQ11_1, fQ11_2, fQ11_3, fQ11_4, zQ11⟩ := blk5 hQ11
              obtain ⟨cR11_0, cR11_1, cR11_2, fR11_0, fR11_1, fR11_2, zR11⟩ := blk3 hR11
              go_wp2_with fail
              refine (iCs_is _ (HH.out (by trivial) (by trivial))).mono ?_; rintro e' w12 ⟨rfl, hw12⟩
              have hP12 := blk_next hP11 hw12
              have hQ12 := blk_next hQ11 hw12
              have hR12 := blk_next hR11 hw12
              have hH12 := blk_next hH11 hw12
              have hB12 := bel_next hB11 hw12
              go_wp2
              go_ret
              exact ⟨rfl, by first | exact hB12 | exact hB12.drew⟩

set_option maxRecDepth 100000 in
theorem lifted (os : Os) (started : os.Started) (H : Type) (enc : TypeId × Value → H) :
    ReturnsInHanded {} Try.checked os 4 .any (Rows.fnCastsSpec.pre6 enc Try.prog Try.f4 Rows.fnCastsRow.domain false) (Rows.fnCastsSpec.post enc Try.prog Try.f4 false true false false) := by
  refine returnsInHanded_of_change (C := Try.checked) own started (by kernel_rfl) Try.func4
    (ChangeSpec.witness6 (enc := enc) (C := Try.checked) false ⟨#[], #[.slice none 0 0], []⟩ 8 (by kernel_rfl) (by kernel_rfl) (by kernel_rfl) (by kernel_rfl)) ?_
  intro W base args ds gs before hval0 hW hcnd _
  have hval : ∀ (j : Nat) t v, Try.f4.params[j]? = some t → args[j]? = some v → Value.okWide Try.prog W .any base t v := hval0
  have hW' := hW
  obtain ⟨p, q, hA0, hV, rfl, hfz, hnd⟩ := hW
  have hA : DataW.TrodAll enc Try.prog W 0 (fun _ => true) true Try.f4.params.toList args.toList ds p := hA0
  rw [Try.params4] at hA hval
  obtain ⟨v0, vs0, d0, ds0, p0, q0, hargs, rfl, rfl, h0, r0⟩ := trodAll_cons hA
  obtain ⟨rfl, rfl, rfl⟩ := trodAll_nil r0
  obtain rfl : args = #[v0] := by cases args; simp_all
  obtain ⟨rfl, rfl⟩ := trodVars_none hV
  have k0 := h0
  have lt0 : ∀ x ∈ p0, x.block < W.heap.size := by obtain ⟨m, hm⟩ := k0; exact DataW.trod_lt m _ _ _ hm
  obtain ⟨a0, len0, cap0, rfl⟩ := okWide_slice Try.underlying22 (hval 0 22 v0 rfl rfl)
  have w0 : CodeOk W a0 len0 cap0 := by
    obtain ⟨fuel, hf⟩ := h0
    rcases open_ints Try.underlying22 Try.underlying5 (by kernel_rfl) hf with ⟨hcs, _⟩ | ⟨x, l, c, zs, hcs, _, hl, hm, hz, _, hcell, hwz⟩
    · simp [Value.cells] at hcs
      obtain ⟨rfl, rfl, rfl⟩ := hcs
      exact code_nil W
    · simp [Value.cells] at hcs
      obtain ⟨rfl, rfl, rfl⟩ := hcs
      exact code_ok hl hm (by simp at hz; omega) hcell hwz
  clear hA0 hval0
  refine (walk W a0 len0 cap0 w0).mono fun e W' ⟨he, bel⟩ => ?_
  subst he
  exact ⟨_, rfl, _, _, _, [], _, [], hW', trodAll_mk1 (shut_bool Try.underlying4 _), (trodAll_cons_mk (Below.trod laidOut (by kernel_rfl) (of_decide_eq_true (by kernel_rfl)) k0 bel lt0) trodAll_mk0), rfl, bel.frame _, fun h => by cases h⟩

theorem over : Rows.fnCastsRow.holds Try.pinned (OpenSpec.ofChange Rows.fnCastsSpec) :=
  OpenClaim.holds_of_wide 4 Try.f4 rfl rfl rfl rfl rfl rfl rfl ⟨rfl, rfl, rfl, rfl, rfl⟩ rfl rfl rfl rfl rfl (by kernel_rfl) Try.func4 (by kernel_rfl)
    (of_decide_eq_true (by kernel_rfl)) (by unfold Func.isWrapper; first | (rw [if_pos (by decide +kernel)]; kernel_rfl) | (rw [if_neg (by decide +kernel)]; exact ⟨rfl, rfl⟩))
    (fun os started H enc _ => lifted os started H enc)

/-- The statement. -/
theorem proved : Rows.FnCastsSaid :=
  over
#print axioms proved
end Go.Proofs.Ytlahjgjjebkpjab.fnCasts
