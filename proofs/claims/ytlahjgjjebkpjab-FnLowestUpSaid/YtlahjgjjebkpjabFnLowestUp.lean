/- FnLowestUp: whatever the input, the law returns true, and its arguments read as they did. No conditions beyond those of the statement's row. -/
import Derived.Test.YtlahjgjjebkpjabDd
import Derived.Test.YtlahjgjjebkpjabVe
namespace Go.Proofs.Ytlahjgjjebkpjab.fnLowestUp
open Go.Proofs.Ytlahjgjjebkpjab
open Go.ChangeShapes Go.WideShapes Go.ChangeAt Go.RowKit Go.Joins
set_option linter.unusedVariables false
set_option linter.unusedSimpArgs false
set_option linter.unnecessarySimpa false

theorem own : ownKnob Try.prog.godebug = none := by kernel_rfl
theorem laidOut : laidOutB Try.prog = true := by kernel_rfl

set_option maxRecDepth 100000 in
set_option maxHeartbeats 4000000 in
theorem walk (w : World) (a0 : Option Addr) (len0 cap0 : Nat) (w0 : CodeOk w a0 len0 cap0) :
    Calls Try.prog 5 #[.slice a0 len0 cap0] w fun e w' => e = .returned (.bool true) ∧ Below w.heap.size w w' := by
  by_cases hl : 1048576 < len0
  · have w0' := w0.2.1
    unfold maxLen at w0'
    clear w0
    go_enter Try.func5, Try.ntmps5
    go_wp2
    go_ret
    exact ⟨rfl, Below.refl _ _⟩
  · have w0' := w0.2.1
    unfold maxLen at w0'
    have hle := w0.1
    have HW := Lib.hid w0
    clear w0
    go_enter Try.func5, Try.ntmps5
    go_wp2_with fail
    refine (drLowestUp_any _ _ _ _ HW.out).mono ?_; rintro e w1 ⟨p0, p1, b0, b1, b2, b3, b4, r0, r1, r2, rfl, ⟨p0_0, p0_1⟩, ⟨p1_0, p1_1⟩, ⟨b0_0, b0_1⟩, ⟨b1_0, b1_1⟩, ⟨b2_0, b2_1⟩, ⟨b3_0, b3_1⟩, ⟨b4_0, b4_1⟩, ⟨r0_0, r0_1⟩, ⟨r1_0, r1_1⟩, ⟨r2_0, r2_1⟩, hB0⟩
    cases vp : plB p0 p1
    · have HV : Hid (luB p0 p1 b0 b1 b2 b3 b4 r0 r1 = false) := by show _ = _; unfold luB; rw [vp]; simp
      have HVP := Lib.hid vp
      clear vp
      have hP1 : (w1.alloc (.cells #[.int .i64 p0, .int .i64 p1] 24)).heap[w1.heap.size]? = some (.cells #[.int .i64 p0, .int .i64 p1] 24) := by have := blk_new w1 (.cells #[.int .i64 p0, .int .i64 p1] 24); simpa using this
      have hB1 := hB0.alloc hB0.size (.cells #[.int .i64 p0, .int .i64 p1] 24)
      have zBP := hB0.size
      have zPQ := blk_lt hP1
      have hQ2 : ((w1.alloc (.cells #[.int .i64 p0, .int .i64 p1] 24)).alloc (.cells #[.int .i64 b0, .int .i64 b1, .int .i64 b2, .int .i64 b3, .int .i64 b4] 26)).heap[w1.heap.size + 1]? = some (.cells #[.int .i64 b0, .int .i64 b1, .int .i64 b2, .int .i64 b3, .int .i64 b4] 26) := by have := blk_new (w1.alloc (.cells #[.int .i64 p0, .int .i64 p1] 24)) (.cells #[.int .i64 b0, .int .i64 b1, .int .i64 b2, .int .i64 b3, .int .i64 b4] 26); simpa using this
      have hP2 := blk_old hP1 (.cells #[.int .i64 b0, .int .i64 b1, .int .i64 b2, .int .i64 b3, .int .i64 b4] 26)
      have hB2 := hB1.alloc hB1.size (.cells #[.int .i64 b0, .int .i64 b1, .int .i64 b2, .int .i64 b3, .int .i64 b4] 26)
      have zBQ := hB1.size
      obtain ⟨cP2_0, cP2_1, fP2_0, fP2_1, zP2⟩ := blk2 hP2
      obtain ⟨cQ2_0, cQ2_1, cQ2_2, cQ2_3, cQ2_4, fQ2_0, fQ2_1, fQ2_2, fQ2_3, fQ2_4, zQ2⟩ := blk5 hQ2
      go_wp2_with fail
      refine (iLU_f _ _ _ _ _ _ _ _ _ _ HV.out).mono ?_; rintro e' w3 ⟨rfl, hw3⟩
      have hP3 := blk_next hP2 hw3
      have hQ3 := blk_next hQ2 hw3
      have hB3 := bel_next hB2 hw3
      obtain ⟨cP3_0, cP3_1, fP3_0, fP3_1, zP3⟩ := blk2 hP3
      obtain ⟨cQ3_0, cQ3_1, cQ3_2, cQ3_3, cQ3_4, fQ3_0, fQ3_1, fQ3_2, fQ3_3, fQ3_4, zQ3⟩ := blk5 hQ3
      go_wp2_with fail
      refine (sLU_f _ _ _ _ _ _ _ _ _ _ HV.out).mono ?_; rintro e' w4 ⟨rfl, hw4⟩
      have hP4 := blk_next hP3 hw4
      have hQ4 := blk_next hQ3 hw4
      have hB4 := bel_next hB3 hw4
      obtain ⟨cP4_0, cP4_1, fP4_0, fP4_1, zP4⟩ := blk2 hP4
      go_wp2_with fail
      refine (sPV_is _ HVP.out).mono ?_; rintro e' w5 ⟨rfl, hw5⟩
      have hP5 := blk_next hP4 hw5
      have hQ5 := blk_next hQ4 hw5
      have hB5 := bel_next hB4 hw5
      go_wp2_with fail
      refine (alive_bel _).mono ?_; rintro e' w6 ⟨rfl, hw6⟩
      have hP6 := blk_next hP5 hw6
      have hQ6 := blk_next hQ5 hw6
      have hB6 := bel_next hB5 hw6
      go_wp2
      go_ret
      exact ⟨rfl, by first | exact hB6 | exact hB6.drew⟩
    · skip
      cases vb : blB b0 b1 b2 b3 b4
      · have HV : Hid (luB p0 p1 b0 b1 b2 b3 b4 r0 r1 = false) := by show _ = _; unfold luB; rw [vp, vb]; simp
        have HVP := Lib.hid vp
        have HVB := Lib.hid vb
        clear vp vb
        have hP1 : (w1.alloc (.cells #[.int .i64 p0, .int .i64 p1] 24)).heap[w1.heap.size]? = some (.cells #[.int .i64 p0, .int .i64 p1] 24) := by have := blk_new w1 (.cells #[.int .i64 p0, .int .i64 p1] 24); simpa using this
        have hB1 := hB0.alloc hB0.size (.cells #[.int .i64 p0, .int .i64 p1] 24)
        have zBP := hB0.size
        have zPQ := blk_lt hP1
        have hQ2 : ((w1.alloc (.cells #[.int .i64 p0, .int .i64 p1] 24)).alloc (.cells #[.int .i64 b0, .int .i64 b1, .int .i64 b2, .int .i64 b3, .int .i64 b4] 26)).heap[w1.heap.size + 1]? = some (.cells #[.int .i64 b0, .int .i64 b1, .int .i64 b2, .int .i64 b3, .int .i64 b4] 26) := by have := blk_new (w1.alloc (.cells #[.int .i64 p0, .int .i64 p1] 24)) (.cells #[.int .i64 b0, .int .i64 b1, .int .i64 b2, .int .i64 b3, .int .i64 b4] 26); simpa using this
        have hP2 := blk_old hP1 (.cells #[.int .i64 b0, .int .i64 b1, .int .i64 b2, .int .i64 b3, .int .i64 b4] 26)
        have hB2 := hB1.alloc hB1.size (.cells #[.int .i64 b0, .int .i64 b1, .int .i64 b2, .int .i64 b3, .int .i64 b4] 26)
        have zBQ := hB1.size
        obtain ⟨cP2_0, cP2_1, fP2_0, fP2_1, zP2⟩ := blk2 hP2
        obtain ⟨cQ2_0, cQ2_1, cQ2_2, cQ2_3, cQ2_4, fQ2_0, fQ2_1, fQ2_2, fQ2_3, fQ2_4, zQ2⟩ := blk5 hQ2
        go_wp2_with fail
        refine (iLU_f _ _ _ _ _ _ _ _ _ _ HV.out).mono ?_; rintro e' w3 ⟨rfl, hw3⟩
        have hP3 := blk_next hP2 hw3
        have hQ3 := blk_next hQ2 hw3
        have hB3 := bel_next hB2 hw3
        obtain ⟨cP3_0, cP3_1, fP3_0, fP3_1, zP3⟩ := blk2 hP3
        obtain ⟨cQ3_0, cQ3_1, cQ3_2, cQ3_3, cQ3_4, fQ3_0, fQ3_1, fQ3_2, fQ3_3, fQ3_4, zQ3⟩ := blk5 hQ3
        go_wp2_with fail
        refine (sLU_f _ _ _ _ _ _ _ _ _ _ HV.out).mono ?_; rintro e' w4 ⟨rfl, hw4⟩
        have hP4 := blk_next hP3 hw4
        have hQ4 := blk_next hQ3 hw4
        have hB4 := bel_next hB3 hw4
        obtain ⟨cP4_0, cP4_1, fP4_0, fP4_1, zP4⟩ := blk2 hP4
        go_wp2_with fail
        refine (sPV_is _ HVP.out).mono ?_; rintro e' w5 ⟨rfl, hw5⟩
        have hP5 := blk_next hP4 hw5
        have hQ5 := blk_next hQ4 hw5
        have hB5 := bel_next hB4 hw5
        obtain ⟨cQ5_0, cQ5_1, cQ5_2, cQ5_3, cQ5_4, fQ5_0, fQ5_1, fQ5_2, fQ5_3, fQ5_4, zQ5⟩ := blk5 hQ5
        go_wp2_with fail
        refine (sBV_is _ HVB.out).mono ?_; rintro e' w6 ⟨rfl, hw6⟩
        have hP6 := blk_next hP5 hw6
        have hQ6 := blk_next hQ5 hw6
        have hB6 := bel_next hB5 hw6
        go_wp2_with fail
        refine (alive_bel _).mono ?_; rintro e' w7 ⟨rfl, hw7⟩
        have hP7 := blk_next hP6 hw7
        have hQ7 := blk_next hQ6 hw7
        have hB7 := bel_next hB6 hw7
        go_wp2
        go_ret
        exact ⟨rfl, by first | exact hB7 | exact hB7.drew⟩
      · skip
        cases vr : ryB r0 r1 1
        · have HV : Hid (luB p0 p1 b0 b1 b2 b3 b4 r0 r1 = false) := by show _ = _; unfold luB; rw [vp, vb, vr]; simp
          have HVP := Lib.hid vp
          have HVB := Lib.hid vb
          have HVR := Lib.hid vr
          clear vp vb vr
          have hP1 : (w1.alloc (.cells #[.int .i64 p0, .int .i64 p1] 24)).heap[w1.heap.size]? = some (.cells #[.int .i64 p0, .int .i64 p1] 24) := by have := blk_new w1 (.cells #[.int .i64 p0, .int .i64 p1] 24); simpa using this
          have hB1 := hB0.alloc hB0.size (.cells #[.int .i64 p0, .int .i64 p1] 24)
          have zBP := hB0.size
          have zPQ := blk_lt hP1
          have hQ2 : ((w1.alloc (.cells #[.int .i64 p0, .int .i64 p1] 24)).alloc (.cells #[.int .i64 b0, .int .i64 b1, .int .i64 b2, .int .i64 b3, .int .i64 b4] 26)).heap[w1.heap.size + 1]? = some (.cells #[.int .i64 b0, .int .i64 b1, .int .i64 b2, .int .i64 b3, .int .i64 b4] 26) := by have := blk_new (w1.alloc (.cells #[.int .i64 p0, .int .i64 p1] 24)) (.cells #[.int .i64 b0, .int .i64 b1, .int .i64 b2, .int .i64 b3, .int .i64 b4] 26); simpa using this
          have hP2 := blk_old hP1 (.cells #[.int .i64 b0, .int .i64 b1, .int .i64 b2, .int .i64 b3, .int .i64 b4] 26)
          have hB2 := hB1.alloc hB1.size (.cells #[.int .i64 b0, .int .i64 b1, .int .i64 b2, .int .i64 b3, .int .i64 b4] 26)
          have zBQ := hB1.size
          obtain ⟨cP2_0, cP2_1, fP2_0, fP2_1, zP2⟩ := blk2 hP2
          obtain ⟨cQ2_0, cQ2_1, cQ2_2, cQ2_3, cQ2_4, fQ2_0, fQ2_1, fQ2_2, fQ2_3, fQ2_4, zQ2⟩ := blk5 hQ2
          go_wp2_with fail
          refine (iLU_f _ _ _ _ _ _ _ _ _ _ HV.out).mono ?_; rintro e' w3 ⟨rfl, hw3⟩
          have hP3 := blk_next hP2 hw3
          have hQ3 := blk_next hQ2 hw3
          have hB3 := bel_next hB2 hw3
          obtain ⟨cP3_0, cP3_1, fP3_0, fP3_1, zP3⟩ := blk2 hP3
          obtain ⟨cQ3_0, cQ3_1, cQ3_2, cQ3_3, cQ3_4, fQ3_0, fQ3_1, fQ3_2, fQ3_3, fQ3_4, zQ3⟩ := blk5 hQ3
          go_wp2_with fail
          refine (sLU_f _ _ _ _ _ _ _ _ _ _ HV.out).mono ?_; rintro e' w4 ⟨rfl, hw4⟩
          have hP4 := blk_next hP3 hw4
          have hQ4 := blk_next hQ3 hw4
          have hB4 := bel_next hB3 hw4
          obtain ⟨cP4_0, cP4_1, fP4_0, fP4_1, zP4⟩ := blk2 hP4
          go_wp2_with fail
          refine (sPV_is _ HVP.out).mono ?_; rintro e' w5 ⟨rfl, hw5⟩
          have hP5 := blk_next hP4 hw5
          have hQ5 := blk_next hQ4 hw5
          have hB5 := bel_next hB4 hw5
          obtain ⟨cQ5_0, cQ5_1, cQ5_2, cQ5_3, cQ5_4, fQ5_0, fQ5_1, fQ5_2, fQ5_3, fQ5_4, zQ5⟩ := blk5 hQ5
          go_wp2_with fail
          refine (sBV_is _ HVB.out).mono ?_; rintro e' w6 ⟨rfl, hw6⟩
          have hP6 := blk_next hP5 hw6
          have hQ6 := blk_next hQ5 hw6
          have hB6 := bel_next hB5 hw6
          obtain ⟨cP6_0, cP6_1, fP6_0, fP6_1, zP6⟩ := blk2 hP6
          go_wp2_with fail
          refine (sRV_is _ HVR.out).mono ?_; rintro e' w7 ⟨rfl, hw7⟩
          have hP7 := blk_next hP6 hw7
          have hQ7 := blk_next hQ6 hw7
          have hB7 := bel_next hB6 hw7
          go_wp2_with fail
          refine (alive_bel _).mono ?_; rintro e' w8 ⟨rfl, hw8⟩
          have hP8 := blk_next hP7 hw8
          have hQ8 := blk_next hQ7 hw8
          have hB8 := bel_next hB7 hw8
          go_wp2
          go_ret
          exact ⟨rfl, by first | exact hB8 | exact hB8.drew⟩
        · have HV : Hid (luB p0 p1 b0 b1 b2 b3 b4 r0 r1 = true) := by show _ = _; unfold luB; rw [vp, vb, vr]; rfl
          have HVP := Lib.hid vp
          have HVB := Lib.hid vb
          have HVR := Lib.hid vr
          clear vp vb vr
          have hP1 : (w1.alloc (.cells #[.int .i64 p0, .int .i64 p1] 24)).heap[w1.heap.size]? = some (.cells #[.int .i64 p0, .int .i64 p1] 24) := by have := blk_new w1 (.cells #[.int .i64 p0, .int .i64 p1] 24); simpa using this
          have hB1 := hB0.alloc hB0.size (.cells #[.int .i64 p0, .int .i64 p1] 24)
          have zBP := hB0.size
          have zPQ := blk_lt hP1
          have hQ2 : ((w1.alloc (.cells #[.int .i64 p0, .int .i64 p1] 24)).alloc (.cells #[.int .i64 b0, .int .i64 b1, .int .i64 b2, .int .i64 b3, .int .i64 b4] 26)).heap[w1.heap.size + 1]? = some (.cells #[.int .i64 b0, .int .i64 b1, .int .i64 b2, .int .i64 b3, .int .i64 b4] 26) := by have := blk_new (w1.alloc (.cells #[.int .i64 p0, .int .i64 p1] 24)) (.cells #[.int .i64 b0, .int .i64 b1, .int .i64 b2, .int .i64 b3, .int .i64 b4] 26); simpa using this
          have hP2 := blk_old hP1 (.cells #[.int .i64 b0, .int .i64 b1, .int .i64 b2, .int .i64 b3, .int .i64 b4] 26)
          have hB2 := hB1.alloc hB1.size (.cells #[.int .i64 b0, .int .i64 b1, .int .i64 b2, .int .i64 b3, .int .i64 b4] 26)
          have zBQ := hB1.size
          obtain ⟨cP2_0, cP2_1, fP2_0, fP2_1, zP2⟩ := blk2 hP2
          obtain ⟨cQ2_0, cQ2_1, cQ2_2, cQ2_3, cQ2_4, fQ2_0, fQ2_1, fQ2_2, fQ2_3, fQ2_4, zQ2⟩ := blk5 hQ2
          go_wp2_with fail
          refine (iLU_t _ _ _ _ _ _ _ _ _ _ HV.out).mono ?_; rintro e' w3 ⟨m1, rfl, hm1, hw3⟩
          have hP3 := blk_next hP2 hw3
          have hQ3 := blk_next hQ2 hw3
          have hB3 := bel_next hB2 hw3
          obtain ⟨cP3_0, cP3_1, fP3_0, fP3_1, zP3⟩ := blk2 hP3
          obtain ⟨cQ3_0, cQ3_1, cQ3_2, cQ3_3, cQ3_4, fQ3_0, fQ3_1, fQ3_2, fQ3_3, fQ3_4, zQ3⟩ := blk5 hQ3
          go_wp2_with fail
          refine (sLU_t _ _ _ _ _ _ _ _ _ _ HV.out).mono ?_; rintro e' w4 ⟨m2, rfl, hm2, hw4⟩
          have hP4 := blk_next hP3 hw4
          have hQ4 := blk_next hQ3 hw4
          have hB4 := bel_next hB3 hw4
          obtain rfl := hm1.unique hm2
          clear hm2
          have hm : ∀ n : Int, 1 ≤ n → n ≤ 20 → shB p0 p1 b0 b1 b2 b3 b4 r0 r1 n = decide (m1 < 0 ∨ n < m1) := by
            rcases hm1 with ⟨rfl, e⟩ | ⟨e0, e⟩
            · intro n h1 h2; rw [e n h1 h2]; simp
            · intro n h1 h2; rw [e n h1 h2]; simp; omega
          have hmc : m1 = -1 ∨ 1 ≤ m1 := by rcases hm1 with ⟨rfl, _⟩ | ⟨e0, _⟩; exact .inl rfl; exact .inr e0.1
          have HM := Lib.hid hm
          have HMC := Lib.hid hmc
          clear hm hm1 hmc
          obtain ⟨cP4_0, cP4_1, fP4_0, fP4_1, zP4⟩ := blk2 hP4
          go_wp2_with fail
          refine (sPV_is _ HVP.out).mono ?_; rintro e' w5 ⟨rfl, hw5⟩
          have hP5 := blk_next hP4 hw5
          have hQ5 := blk_next hQ4 hw5
          have hB5 := bel_next hB4 hw5
          obtain ⟨cQ5_0, cQ5_1, cQ5_2, cQ5_3, cQ5_4, fQ5_0, fQ5_1, fQ5_2, fQ5_3, fQ5_4, zQ5⟩ := blk5 hQ5
          go_wp2_with fail
          refine (sBV_is _ HVB.out).mono ?_; rintro e' w6 ⟨rfl, hw6⟩
          have hP6 := blk_next hP5 hw6
          have hQ6 := blk_next hQ5 hw6
          have hB6 := bel_next hB5 hw6
          obtain ⟨cP6_0, cP6_1, fP6_0, fP6_1, zP6⟩ := blk2 hP6
          go_wp2_with fail
          refine (sRV_is _ HVR.out).mono ?_; rintro e' w7 ⟨rfl, hw7⟩
          have hP7 := blk_next hP6 hw7
          have hQ7 := blk_next hQ6 hw7
          have hB7 := bel_next hB6 hw7
          go_wp2_with fail
          go_loopw [8] (fun s8 wr => ∃ k : Int, 1 ≤ k ∧ k ≤ 21 ∧ s8 = .int .i64 k ∧ wr.heap[w1.heap.size]? = some (.cells #[.int .i64 p0, .int .i64 p1] 24) ∧ wr.heap[w1.heap.size + 1]? = some (.cells #[.int .i64 b0, .int .i64 b1, .int .i64 b2, .int .i64 b3, .int .i64 b4] 26) ∧ Below w.heap.size w wr) (fun s8 _ => (21 - intOf s8).toNat)
          case atStart => exact ⟨1, by omega, by omega, rfl, hP7, hQ7, hB7⟩
          case round =>
            clear hP7 hQ7
            obtain ⟨k, k0, k1, rfl, hP0, hQ0, hB0⟩ := hrel
            by_cases hlt : k ≤ 20
            · by_cases c1 : m1 < 0
              · have HK : Hid (shB p0 p1 b0 b1 b2 b3 b4 r0 r1 k = true) := by show _ = _; rw [HM.out k k0 hlt]; simp; omega
                obtain ⟨cP0_0, cP0_1, fP0_0, fP0_1, zP0⟩ := blk2 hP0
                obtain ⟨cQ0_0, cQ0_1, cQ0_2, cQ0_3, cQ0_4, fQ0_0, fQ0_1, fQ0_2, fQ0_3, fQ0_4, zQ0⟩ := blk5 hQ0
                go_wp2_with fail
                refine (iSh_is _ HK.out).mono ?_; rintro e' w1 ⟨rfl, hw1⟩
                have hP1 := blk_next hP0 hw1
                have hQ1 := blk_next hQ0 hw1
                have hB1 := bel_next hB0 hw1
                go_wp2_with fail
                go_roundw
                case rel => exact ⟨k + 1, by omega, by omega, rfl, hP1, hQ1, hB1⟩
                case measure => simp [intOf]; omega
              · by_cases c2 : k < m1
                · have HK : Hid (shB p0 p1 b0 b1 b2 b3 b4 r0 r1 k = true) := by show _ = _; rw [HM.out k k0 hlt]; simp; omega
                  obtain ⟨cP0_0, cP0_1, fP0_0, fP0_1, zP0⟩ := blk2 hP0
                  obtain ⟨cQ0_0, cQ0_1, cQ0_2, cQ0_3, cQ0_4, fQ0_0, fQ0_1, fQ0_2, fQ0_3, fQ0_4, zQ0⟩ := blk5 hQ0
                  go_wp2_with fail
                  refine (iSh_is _ HK.out).mono ?_; rintro e' w1 ⟨rfl, hw1⟩
                  have hP1 := blk_next hP0 hw1
                  have hQ1 := blk_next hQ0 hw1
                  have hB1 := bel_next hB0 hw1
                  go_wp2_with fail
                  go_roundw
                  case rel => exact ⟨k + 1, by omega, by omega, rfl, hP1, hQ1, hB1⟩
                  case measure => simp [intOf]; omega
                · have HK : Hid (shB p0 p1 b0 b1 b2 b3 b4 r0 r1 k = false) := by show _ = _; rw [HM.out k k0 hlt]; simp; omega
                  obtain ⟨cP0_0, cP0_1, fP0_0, fP0_1, zP0⟩ := blk2 hP0
                  obtain ⟨cQ0_0, cQ0_1, cQ0_2, cQ0_3, cQ0_4, fQ0_0, fQ0_1, fQ0_2, fQ0_3, fQ0_4, zQ0⟩ := blk5 hQ0
                  go_wp2_with fail
                  refine (iSh_is _ HK.out).mono ?_; rintro e' w1 ⟨rfl, hw1⟩
                  have hP1 := blk_next hP0 hw1
                  have hQ1 := blk_next hQ0 hw1
                  have hB1 := bel_next hB0 hw1
                  go_wp2_with fail
                  go_roundw
                  case rel => exact ⟨k + 1, by omega, by omega, rfl, hP1, hQ1, hB1⟩
                  case measure => simp [intOf]; omega
            · rcases HMC.out with rfl | hm1
              · go_wp2_with fail
                go_ret
                exact ⟨rfl, hB0⟩
              · have c1 : ¬ m1 = -1 := by omega
                have c2 : (m1 == -1) = false := by simpa using c1
                go_wp2_with fail
                go_ret
                exact ⟨rfl, hB0⟩

set_option maxRecDepth 100000 in
theorem lifted (os : Os) (started : os.Started) (H : Type) (enc : TypeId × Value → H) :
    ReturnsInHanded {} Try.checked os 5 .any (Rows.fnLowestUpSpec.pre6 enc Try.prog Try.f5 Rows.fnLowestUpRow.domain false) (Rows.fnLowestUpSpec.post enc Try.prog Try.f5 false true false false) := by
  refine returnsInHanded_of_change (C := Try.checked) own started (by kernel_rfl) Try.func5
    (ChangeSpec.witness6 (enc := enc) (C := Try.checked) false ⟨#[], #[.slice none 0 0], []⟩ 8 (by kernel_rfl) (by kernel_rfl) (by kernel_rfl) (by kernel_rfl)) ?_
  intro W base args ds gs before hval0 hW hcnd _
  have hval : ∀ (j : Nat) t v, Try.f5.params[j]? = some t → args[j]? = some v → Value.okWide Try.prog W .any base t v := hval0
  have hW' := hW
  obtain ⟨p, q, hA0, hV, rfl, hfz, hnd⟩ := hW
  have hA : DataW.TrodAll enc Try.prog W 0 (fun _ => true) true Try.f5.params.toList args.toList ds p := hA0
  rw [Try.params5] at hA hval
  obtain ⟨v0, vs0, d0, ds0, p0, q0, hargs, rfl, rfl, h0, r0⟩ := trodAll_cons hA
  obtain ⟨rfl, rfl, rfl⟩ := trodAll_nil r0
  obtain rfl : args = #[v0] := by cases args; simp_all
  obtain ⟨rfl, rfl⟩ := trodVars_none hV
  have k0 := h0
  have lt0 : ∀ x ∈ p0, x.block < W.heap.size := by obtain ⟨m, hm⟩ := k0; exact DataW.trod_lt m _ _ _ hm
  obtain ⟨a0, len0, cap0, rfl⟩ := okWide_slice Try.underlying22 (hval 0 22 v0 rfl rfl)
  have w0 : CodeOk W a0 len0 cap0 := by
    obtain ⟨fuel, hf⟩ := h0
    rcases open_ints Try.underlying22 Try.underlying5 (by kernel_rfl) hf with ⟨hcs, _⟩ | ⟨x, l, c, zs, hcs, _, hl, hm, hz, _, hcell, hwz⟩
    · simp [Value.cells] at hcs
      obtain ⟨rfl, rfl, rfl⟩ := hcs
      exact code_nil W
    · simp [Value.cells] at hcs
      obtain ⟨rfl, rfl, rfl⟩ := hcs
      exact code_ok hl hm (by simp at hz; omega) hcell hwz
  clear hA0 hval0
  refine (walk W a0 len0 cap0 w0).mono fun e W' ⟨he, bel⟩ => ?_
  subst he
  exact ⟨_, rfl, _, _, _, [], _, [], hW', trodAll_mk1 (shut_bool Try.underlying4 _), (trodAll_cons_mk (Below.trod laidOut (by kernel_rfl) (of_decide_eq_true (by kernel_rfl)) k0 bel lt0) trodAll_mk0), rfl, bel.frame _, fun h => by cases h⟩

theorem over : Rows.fnLowestUpRow.holds Try.pinned (OpenSpec.ofChange Rows.fnLowestUpSpec) :=
  OpenClaim.holds_of_wide 5 Try.f5 rfl rfl rfl rfl rfl rfl rfl ⟨rfl, rfl, rfl, rfl, rfl⟩ rfl rfl rfl rfl rfl (by kernel_rfl) Try.func5 (by kernel_rfl)
    (of_decide_eq_true (by kernel_rfl)) (by unfold Func.isWrapper; first | (rw [if_pos (by decide +kernel)]; kernel_rfl) | (rw [if_neg (by decide +kernel)]; exact ⟨rfl, rfl⟩))
    (fun os started H enc _ => lifted os started H enc)

/-- The statement. -/
theorem proved : Rows.FnLowestUpSaid :=
  over
#print axioms proved
end Go.Proofs.Ytlahjgjjebkpjab.fnLowestUp
