/- FnTipOf: whatever the input, the law returns true, and its arguments read as they did. No conditions beyond those of the statement's row. -/
import Derived.Test.YtlahjgjjebkpjaaDe
import Derived.Test.YtlahjgjjebkpjaaVw
namespace Go.Proofs.Ytlahjgjjebkpjaa.fnTipOf
open Go.Proofs.Ytlahjgjjebkpjaa
open Go.ChangeShapes Go.WideShapes Go.ChangeAt Go.RowKit Go.Joins
set_option linter.unusedVariables false
set_option linter.unusedSimpArgs false
set_option linter.unnecessarySimpa false

theorem own : ownKnob Try.prog.godebug = none := by kernel_rfl
theorem laidOut : laidOutB Try.prog = true := by kernel_rfl

set_option maxRecDepth 100000 in
set_option maxHeartbeats 4000000 in
theorem walk (w : World) (a0 : Option Addr) (len0 cap0 : Nat) (w0 : CodeOk w a0 len0 cap0) :
    Calls Try.prog 6 #[.slice a0 len0 cap0] w fun e w' => e = .returned (.bool true) ∧ Below w.heap.size w w' := by
  by_cases hl : 1048576 < len0
  · have w0' := w0.2.1
    unfold maxLen at w0'
    clear w0
    go_enter Try.func6, Try.ntmps6
    go_wp2
    go_ret
    exact ⟨rfl, Below.refl _ _⟩
  · have w0' := w0.2.1
    unfold maxLen at w0'
    have hle := w0.1
    have HW := Lib.hid w0
    clear w0
    go_enter Try.func6, Try.ntmps6
    go_wp2_with fail
    refine (drTipOf_any _ _ _ _ HW.out).mono ?_; rintro e w1 ⟨p0, p1, hh, r0, r1, r2, rfl, ⟨p0_0, p0_1⟩, ⟨p1_0, p1_1⟩, ⟨hh_0, hh_1⟩, ⟨r0_0, r0_1⟩, ⟨r1_0, r1_1⟩, ⟨r2_0, r2_1⟩, hB0⟩
    cases hv : tpB p0 p1 hh r0 r1 r2
    · have HV := Lib.hid hv
      clear hv
      have hP1 : (w1.alloc (.cells #[.int .i64 p0, .int .i64 p1] 24)).heap[w1.heap.size]? = some (.cells #[.int .i64 p0, .int .i64 p1] 24) := by have := blk_new w1 (.cells #[.int .i64 p0, .int .i64 p1] 24); simpa using this
      have hB1 := hB0.alloc hB0.size (.cells #[.int .i64 p0, .int .i64 p1] 24)
      have zBP := hB0.size
      have zPR := blk_lt hP1
      have hR2 : ((w1.alloc (.cells #[.int .i64 p0, .int .i64 p1] 24)).alloc (.cells #[.int .i64 r0, .int .i64 r1, .int .i64 r2] 34)).heap[w1.heap.size + 1]? = some (.cells #[.int .i64 r0, .int .i64 r1, .int .i64 r2] 34) := by have := blk_new (w1.alloc (.cells #[.int .i64 p0, .int .i64 p1] 24)) (.cells #[.int .i64 r0, .int .i64 r1, .int .i64 r2] 34); simpa using this
      have hP2 := blk_old hP1 (.cells #[.int .i64 r0, .int .i64 r1, .int .i64 r2] 34)
      have hB2 := hB1.alloc hB1.size (.cells #[.int .i64 r0, .int .i64 r1, .int .i64 r2] 34)
      have zBR := hB1.size
      obtain ⟨cP2_0, cP2_1, fP2_0, fP2_1, zP2⟩ := blk2 hP2
      obtain ⟨cR2_0, cR2_1, cR2_2, fR2_0, fR2_1, fR2_2, zR2⟩ := blk3 hR2
      go_wp2_with fail
      refine (iTip_f _ _ _ _ _ _ _ HV.out).mono ?_; rintro e' w3 ⟨rfl, hw3⟩
      have hP3 := blk_next hP2 hw3
      have hR3 := blk_next hR2 hw3
      have hB3 := bel_next hB2 hw3
      have zPS := blk_lt hP3
      have zRS := blk_lt hR3
      have hS4 : (w3.alloc (.cells #[.int .i64 0, .int .i64 0, .int .i64 0] 40)).heap[w3.heap.size]? = some (.cells #[.int .i64 0, .int .i64 0, .int .i64 0] 40) := by have := blk_new w3 (.cells #[.int .i64 0, .int .i64 0, .int .i64 0] 40); simpa using this
      have hP4 := blk_old hP3 (.cells #[.int .i64 0, .int .i64 0, .int .i64 0] 40)
      have hR4 := blk_old hR3 (.cells #[.int .i64 0, .int .i64 0, .int .i64 0] 40)
      have hB4 := hB3.alloc hB3.size (.cells #[.int .i64 0, .int .i64 0, .int .i64 0] 40)
      have zBS := hB3.size
      obtain ⟨cP4_0, cP4_1, fP4_0, fP4_1, zP4⟩ := blk2 hP4
      obtain ⟨cR4_0, cR4_1, cR4_2, fR4_0, fR4_1, fR4_2, zR4⟩ := blk3 hR4
      go_wp2_with fail
      refine (sTip_f _ _ _ _ _ _ _ HV.out).mono ?_; rintro e' w5 ⟨rfl, hw5⟩
      have hP5 := blk_next hP4 hw5
      have hR5 := blk_next hR4 hw5
      have hS5 := blk_next hS4 hw5
      have hB5 := bel_next hB4 hw5
      have zPX := blk_lt hP5
      have zRX := blk_lt hR5
      have zSX := blk_lt hS5
      have hX6 : (w5.alloc (.cells #[.int .i64 0, .int .i64 0, .int .i64 0] 40)).heap[w5.heap.size]? = some (.cells #[.int .i64 0, .int .i64 0, .int .i64 0] 40) := by have := blk_new w5 (.cells #[.int .i64 0, .int .i64 0, .int .i64 0] 40); simpa using this
      have hP6 := blk_old hP5 (.cells #[.int .i64 0, .int .i64 0, .int .i64 0] 40)
      have hR6 := blk_old hR5 (.cells #[.int .i64 0, .int .i64 0, .int .i64 0] 40)
      have hS6 := blk_old hS5 (.cells #[.int .i64 0, .int .i64 0, .int .i64 0] 40)
      have hB6 := hB5.alloc hB5.size (.cells #[.int .i64 0, .int .i64 0, .int .i64 0] 40)
      have zBX := hB5.size
      obtain ⟨cS6_0, cS6_1, cS6_2, fS6_0, fS6_1, fS6_2, zS6⟩ := blk3 hS6
      obtain ⟨cX6_0, cX6_1, cX6_2, fX6_0, fX6_1, fX6_2, zX6⟩ := blk3 hX6
      go_wp2_with fail
      refine (alive_bel _).mono ?_; rintro e' w7 ⟨rfl, hw7⟩
      have hP7 := blk_next hP6 hw7
      have hR7 := blk_next hR6 hw7
      have hS7 := blk_next hS6 hw7
      have hX7 := blk_next hX6 hw7
      have hB7 := bel_next hB6 hw7
      go_wp2
      go_ret
      exact ⟨rfl, by first | exact hB7 | exact hB7.drew⟩
    · have hb := hv
      unfold tpB at hb
      simp only [Bool.and_eq_true, plB_iff, ryB_iff] at hb
      obtain ⟨bp, bh, br⟩ := hb
      have bh2 : 0 ≤ hh ∧ hh ≤ 30 := by simpa [inV] using bh
      clear bh
      obtain ⟨f0, hf0⟩ : ∃ z : Int, p0 * r2 = z := ⟨_, rfl⟩
      obtain ⟨q0, hq0⟩ : ∃ z : Int, r0 * hh = z := ⟨_, rfl⟩
      have mf0 := mulC (p := 50) (q := 20) (a := p0) (b := r2) (by omega) (by omega) (by omega) (by omega)
      have mq0 := mulC (p := 20) (q := 30) (a := r0) (b := hh) (by omega) (by omega) (by omega) (by omega)
      rw [hf0] at mf0
      rw [hq0] at mq0
      simp only [Int.reduceMul, Int.reduceNeg] at mf0 mq0
      obtain ⟨s0, hs0⟩ : ∃ z : Int, z = f0 - q0 := ⟨_, rfl⟩
      obtain ⟨g0, hg0⟩ : ∃ z : Int, z = f0 - 2 * q0 := ⟨_, rfl⟩
      obtain ⟨l0, hl0⟩ : ∃ z : Int, z = 2 * f0 - 2 * q0 := ⟨_, rfl⟩
      have HS0 : Hid (tipN p0 r0 hh r2 = s0) := by show _ = _; unfold tipN; omega
      have HF0 : Hid (tipN p0 r0 0 r2 = f0) := by show _ = _; unfold tipN; omega
      have HG0 : Hid (tipN p0 r0 (2 * hh) r2 = g0) := by show _ = _; unfold tipN; (have := (show r0 * (2 * hh) = 2 * (r0 * hh) by grind); omega)
      have HL0 : Hid (tipN p0 (2 * r0) hh (2 * r2) = l0) := by show _ = _; unfold tipN; (have e1 := (show p0 * (2 * r2) = 2 * (p0 * r2) by grind); have e2 := (show 2 * r0 * hh = 2 * (r0 * hh) by grind); omega)
      have eg0 : (g0 - f0 == 2 * (s0 - f0)) = true := by rw [beq_iff_eq]; omega
      obtain ⟨f1, hf1⟩ : ∃ z : Int, p1 * r2 = z := ⟨_, rfl⟩
      obtain ⟨q1, hq1⟩ : ∃ z : Int, r1 * hh = z := ⟨_, rfl⟩
      have mf1 := mulC (p := 50) (q := 20) (a := p1) (b := r2) (by omega) (by omega) (by omega) (by omega)
      have mq1 := mulC (p := 20) (q := 30) (a := r1) (b := hh) (by omega) (by omega) (by omega) (by omega)
      rw [hf1] at mf1
      rw [hq1] at mq1
      simp only [Int.reduceMul, Int.reduceNeg] at mf1 mq1
      obtain ⟨s1, hs1⟩ : ∃ z : Int, z = f1 - q1 := ⟨_, rfl⟩
      obtain ⟨g1, hg1⟩ : ∃ z : Int, z = f1 - 2 * q1 := ⟨_, rfl⟩
      obtain ⟨l1, hl1⟩ : ∃ z : Int, z = 2 * f1 - 2 * q1 := ⟨_, rfl⟩
      have HS1 : Hid (tipN p1 r1 hh r2 = s1) := by show _ = _; unfold tipN; omega
      have HF1 : Hid (tipN p1 r1 0 r2 = f1) := by show _ = _; unfold tipN; omega
      have HG1 : Hid (tipN p1 r1 (2 * hh) r2 = g1) := by show _ = _; unfold tipN; (have := (show r1 * (2 * hh) = 2 * (r1 * hh) by grind); omega)
      have HL1 : Hid (tipN p1 (2 * r1) hh (2 * r2) = l1) := by show _ = _; unfold tipN; (have e1 := (show p1 * (2 * r2) = 2 * (p1 * r2) by grind); have e2 := (show 2 * r1 * hh = 2 * (r1 * hh) by grind); omega)
      have eg1 : (g1 - f1 == 2 * (s1 - f1)) = true := by rw [beq_iff_eq]; omega
      have HA : Hid (ssB f0 f1 r2 p0 p1 1 = true) := by show _ = _; unfold ssB; rw [spB_iff.2 (by omega), spB_iff.2 (by omega), hf0.symm, hf1.symm]; simp
      have HE : Hid (ssB s0 s1 r2 l0 l1 (2 * r2) = true) := by show _ = _; unfold ssB; rw [spB_iff.2 (by omega), spB_iff.2 (by omega)]; (have e0 := (show l0 = 2 * s0 by omega); have e1 := (show l1 = 2 * s1 by omega); rw [e0, e1]; simp; constructor <;> grind)
      have HV0 : Hid (tpB p0 p1 0 r0 r1 r2 = true) := by show _ = _; unfold tpB; rw [plB_iff.2 bp, ryB_iff.2 br]; rfl
      obtain ⟨cv, hcv⟩ : ∃ z, tpB p0 p1 (2 * hh) r0 r1 r2 = z := ⟨_, rfl⟩
      have HC := Lib.hid hcv
      obtain ⟨mv, hmv⟩ : ∃ z, tpB p0 p1 hh (2 * r0) (2 * r1) (2 * r2) = z := ⟨_, rfl⟩
      have HM := Lib.hid hmv
      have HV := Lib.hid hv
      have bs0 : -2000 ≤ s0 ∧ s0 ≤ 2000 := by omega
      have bs1 : -2000 ≤ s1 ∧ s1 ≤ 2000 := by omega
      have bg0 : -3000 ≤ g0 ∧ g0 ≤ 3000 := by omega
      have bg1 : -3000 ≤ g1 ∧ g1 ≤ 3000 := by omega
      clear hv hcv hmv hf0 hf1 hq0 hq1 hs0 hs1 hg0 hg1 hl0 hl1 mq0 mq1
      obtain ⟨bs00, bs01⟩ := bs0
      obtain ⟨bs10, bs11⟩ := bs1
      obtain ⟨bg00, bg01⟩ := bg0
      obtain ⟨bg10, bg11⟩ := bg1
      obtain ⟨mf00, mf01⟩ := mf0
      obtain ⟨mf10, mf11⟩ := mf1
      obtain ⟨bh0, bh1⟩ := bh2
      clear bp br
      have hP1 : (w1.alloc (.cells #[.int .i64 p0, .int .i64 p1] 24)).heap[w1.heap.size]? = some (.cells #[.int .i64 p0, .int .i64 p1] 24) := by have := blk_new w1 (.cells #[.int .i64 p0, .int .i64 p1] 24); simpa using this
      have hB1 := hB0.alloc hB0.size (.cells #[.int .i64 p0, .int .i64 p1] 24)
      have zBP := hB0.size
      have zPR := blk_lt hP1
      have hR2 : ((w1.alloc (.cells #[.int .i64 p0, .int .i64 p1] 24)).alloc (.cells #[.int .i64 r0, .int .i64 r1, .int .i64 r2] 34)).heap[w1.heap.size + 1]? = some (.cells #[.int .i64 r0, .int .i64 r1, .int .i64 r2] 34) := by have := blk_new (w1.alloc (.cells #[.int .i64 p0, .int .i64 p1] 24)) (.cells #[.int .i64 r0, .int .i64 r1, .int .i64 r2] 34); simpa using this
      have hP2 := blk_old hP1 (.cells #[.int .i64 r0, .int .i64 r1, .int .i64 r2] 34)
      have hB2 := hB1.alloc hB1.size (.cells #[.int .i64 r0, .int .i64 r1, .int .i64 r2] 34)
      have zBR := hB1.size
      obtain ⟨cP2_0, cP2_1, fP2_0, fP2_1, zP2⟩ := blk2 hP2
      obtain ⟨cR2_0, cR2_1, cR2_2, fR2_0, fR2_1, fR2_2, zR2⟩ := blk3 hR2
      go_wp2_with fail
      refine (iTip_is _ HV.out HS0.out HS1.out).mono ?_; rintro e' w3 ⟨rfl, hw3⟩
      have hP3 := blk_next hP2 hw3
      have hR3 := blk_next hR2 hw3
      have hB3 := bel_next hB2 hw3
      have zPS := blk_lt hP3
      have zRS := blk_lt hR3
      have hS4 : (w3.alloc (.cells #[.int .i64 s0, .int .i64 s1, .int .i64 r2] 40)).heap[w3.heap.size]? = some (.cells #[.int .i64 s0, .int .i64 s1, .int .i64 r2] 40) := by have := blk_new w3 (.cells #[.int .i64 s0, .int .i64 s1, .int .i64 r2] 40); simpa using this
      have hP4 := blk_old hP3 (.cells #[.int .i64 s0, .int .i64 s1, .int .i64 r2] 40)
      have hR4 := blk_old hR3 (.cells #[.int .i64 s0, .int .i64 s1, .int .i64 r2] 40)
      have hB4 := hB3.alloc hB3.size (.cells #[.int .i64 s0, .int .i64 s1, .int .i64 r2] 40)
      have zBS := hB3.size
      obtain ⟨cP4_0, cP4_1, fP4_0, fP4_1, zP4⟩ := blk2 hP4
      obtain ⟨cR4_0, cR4_1, cR4_2, fR4_0, fR4_1, fR4_2, zR4⟩ := blk3 hR4
      go_wp2_with fail
      refine (sTip_is _ HV.out HS0.out HS1.out).mono ?_; rintro e' w5 ⟨rfl, hw5⟩
      have hP5 := blk_next hP4 hw5
      have hR5 := blk_next hR4 hw5
      have hS5 := blk_next hS4 hw5
      have hB5 := bel_next hB4 hw5
      have zPX := blk_lt hP5
      have zRX := blk_lt hR5
      have zSX := blk_lt hS5
      have hX6 : (w5.alloc (.cells #[.int .i64 s0, .int .i64 s1, .int .i64 r2] 40)).heap[w5.heap.size]? = some (.cells #[.int .i64 s0, .int .i64 s1, .int .i64 r2] 40) := by have := blk_new w5 (.cells #[.int .i64 s0, .int .i64 s1, .int .i64 r2] 40); simpa using this
      have hP6 := blk_old hP5 (.cells #[.int .i64 s0, .int .i64 s1, .int .i64 r2] 40)
      have hR6 := blk_old hR5 (.cells #[.int .i64 s0, .int .i64 s1, .int .i64 r2] 40)
      have hS6 := blk_old hS5 (.cells #[.int .i64 s0, .int .i64 s1, .int .i64 r2] 40)
      have hB6 := hB5.alloc hB5.size (.cells #[.int .i64 s0, .int .i64 s1, .int .i64 r2] 40)
      have zBX := hB5.size
      obtain ⟨cP6_0, cP6_1, fP6_0, fP6_1, zP6⟩ := blk2 hP6
      obtain ⟨cR6_0, cR6_1, cR6_2, fR6_0, fR6_1, fR6_2, zR6⟩ := blk3 hR6
      obtain ⟨cS6_0, cS6_1, cS6_2, fS6_0, fS6_1, fS6_2, zS6⟩ := blk3 hS6
      obtain ⟨cX6_0, cX6_1, cX6_2, fX6_0, fX6_1, fX6_2, zX6⟩ := blk3 hX6
      go_wp2_with fail
      refine (iTip_is _ HV0.out HF0.out HF1.out).mono ?_; rintro e' w7 ⟨rfl, hw7⟩
      have hP7 := blk_next hP6 hw7
      have hR7 := blk_next hR6 hw7
      have hS7 := blk_next hS6 hw7
      have hX7 := blk_next hX6 hw7
      have hB7 := bel_next hB6 hw7
      have zPF := blk_lt hP7
      have zRF := blk_lt hR7
      have zSF := blk_lt hS7
      have hF8 : (w7.alloc (.cells #[.int .i64 f0, .int .i64 f1, .int .i64 r2] 40)).heap[w7.heap.size]? = some (.cells #[.int .i64 f0, .int .i64 f1, .int .i64 r2] 40) := by have := blk_new w7 (.cells #[.int .i64 f0, .int .i64 f1, .int .i64 r2] 40); simpa using this
      have hP8 := blk_old hP7 (.cells #[.int .i64 f0, .int .i64 f1, .int .i64 r2] 40)
      have hR8 := blk_old hR7 (.cells #[.int .i64 f0, .int .i64 f1, .int .i64 r2] 40)
      have hS8 := blk_old hS7 (.cells #[.int .i64 f0, .int .i64 f1, .int .i64 r2] 40)
      have hB8 := hB7.alloc hB7.size (.cells #[.int .i64 f0, .int .i64 f1, .int .i64 r2] 40)
      have zBF := hB7.size
      obtain ⟨cP8_0, cP8_1, fP8_0, fP8_1, zP8⟩ := blk2 hP8
      obtain ⟨cR8_0, cR8_1, cR8_2, fR8_0, fR8_1, fR8_2, zR8⟩ := blk3 hR8
      cases cv
      · go_wp2_with fail
        refine (iTip_f _ _ _ _ _ _ _ HC.out).mono ?_; rintro e' w9 ⟨rfl, hw9⟩
        have hP9 := blk_next hP8 hw9
        have hR9 := blk_next hR8 hw9
        have hS9 := blk_next hS8 hw9
        have hF9 := blk_next hF8 hw9
        have hB9 := bel_next hB8 hw9
        have zPG := blk_lt hP9
        have zRG := blk_lt hR9
        have zSG := blk_lt hS9
        have zFG := blk_lt hF9
        have hG10 : (w9.alloc (.cells #[.int .i64 0, .int .i64 0, .int .i64 0] 40)).heap[w9.heap.size]? = some (.cells #[.int .i64 0, .int .i64 0, .int .i64 0] 40) := by have := blk_new w9 (.cells #[.int .i64 0, .int .i64 0, .int .i64 0] 40); simpa using this
        have hP10 := blk_old hP9 (.cells #[.int .i64 0, .int .i64 0, .int .i64 0] 40)
        have hR10 := blk_old hR9 (.cells #[.int .i64 0, .int .i64 0, .int .i64 0] 40)
        have hS10 := blk_old hS9 (.cells #[.int .i64 0, .int .i64 0, .int .i64 0] 40)
        have hF10 := blk_old hF9 (.cells #[.int .i64 0, .int .i64 0, .int .i64 0] 40)
        have hB10 := hB9.alloc hB9.size (.cells #[.int .i64 0, .int .i64 0, .int .i64 0] 40)
        have zBG := hB9.size
        obtain ⟨cP10_0, cP10_1, fP10_0, fP10_1, zP10⟩ := blk2 hP10
        obtain ⟨cR10_0, cR10_1, cR10_2, fR10_0, fR10_1, fR10_2, zR10⟩ := blk3 hR10
        cases mv
        · go_wp2_with fail
          refine (iTip_f _ _ _ _ _ _ _ HM.out).mono ?_; rintro e' w11 ⟨rfl, hw11⟩
          have hP11 := blk_next hP10 hw11
          have hR11 := blk_next hR10 hw11
          have hS11 := blk_next hS10 hw11
          have hF11 := blk_next hF10 hw11
          have hG11 := blk_next hG10 hw11
          have hB11 := bel_next hB10 hw11
          have zPL := blk_lt hP11
          have zRL := blk_lt hR11
          have zSL := blk_lt hS11
          have zFL := blk_lt hF11
          have zGL := blk_lt hG11
          have hL12 : (w11.alloc (.cells #[.int .i64 0, .int .i64 0, .int .i64 0] 40)).heap[w11.heap.size]? = some (.cells #[.int .i64 0, .int .i64 0, .int .i64 0] 40) := by have := blk_new w11 (.cells #[.int .i64 0, .int .i64 0, .int .i64 0] 40); simpa using this
          have hP12 := blk_old hP11 (.cells #[.int .i64 0, .int .i64 0, .int .i64 0] 40)
          have hR12 := blk_old hR11 (.cells #[.int .i64 0, .int .i64 0, .int .i64 0] 40)
          have hS12 := blk_old hS11 (.cells #[.int .i64 0, .int .i64 0, .int .i64 0] 40)
          have hF12 := blk_old hF11 (.cells #[.int .i64 0, .int .i64 0, .int .i64 0] 40)
          have hG12 := blk_old hG11 (.cells #[.int .i64 0, .int .i64 0, .int .i64 0] 40)
          have hB12 := hB11.alloc hB11.size (.cells #[.int .i64 0, .int .i64 0, .int .i64 0] 40)
          have zBL := hB11.size
          obtain ⟨cP12_0, cP12_1, fP12_0, fP12_1, zP12⟩ := blk2 hP12
          obtain ⟨cF12_0, cF12_1, cF12_2, fF12_0, fF12_1, fF12_2, zF12⟩ := blk3 hF12
          obtain ⟨cG12_0, cG12_1, cG12_2, fG12_0, fG12_1, fG12_2, zG12⟩ := blk3 hG12
          obtain ⟨cS12_0, cS12_1, cS12_2, fS12_0, fS12_1, fS12_2, zS12⟩ := blk3 hS12
          obtain ⟨cL12_0, cL12_1, cL12_2, fL12_0, fL12_1, fL12_2, zL12⟩ := blk3 hL12
          go_wp2_with fail
          refine (iSS_is _ HA.out).mono ?_; rintro e' w13 ⟨rfl, hw13⟩
          have hP13 := blk_next hP12 hw13
          have hR13 := blk_next hR12 hw13
          have hS13 := blk_next hS12 hw13
          have hF13 := blk_next hF12 hw13
          have hG13 := blk_next hG12 hw13
          have hL13 := blk_next hL12 hw13
          have hB13 := bel_next hB12 hw13
          obtain ⟨cS13_0, cS13_1, cS13_2, fS13_0, fS13_1, fS13_2, zS13⟩ := blk3 hS13
          obtain ⟨cF13_0, cF13_1, cF13_2, fF13_0, fF13_1, fF13_2, zF13⟩ := blk3 hF13
          obtain ⟨cG13_0, cG13_1, cG13_2, fG13_0, fG13_1, fG13_2, zG13⟩ := blk3 hG13
          obtain ⟨cL13_0, cL13_1, cL13_2, fL13_0, fL13_1, fL13_2, zL13⟩ := blk3 hL13
          go_wp2
          go_ret
          exact ⟨rfl, by first | exact hB13 | exact hB13.drew⟩
        · go_wp2_with fail
          refine (iTip_is _ HM.out HL0.out HL1.out).mono ?_; rintro e' w11 ⟨rfl, hw11⟩
          have hP11 := blk_next hP10 hw11
          have hR11 := blk_next hR10 hw11
          have hS11 := blk_next hS10 hw11
          have hF11 := blk_next hF10 hw11
          have hG11 := blk_next hG10 hw11
          have hB11 := bel_next hB10 hw11
          have zPL := blk_lt hP11
          have zRL := blk_lt hR11
          have zSL := blk_lt hS11
          have zFL := blk_lt hF11
          have zGL := blk_lt hG11
          have hL12 : (w11.alloc (.cells #[.int .i64 l0, .int .i64 l1, .int .i64 (2 * r2)] 40)).heap[w11.heap.size]? = some (.cells #[.int .i64 l0, .int .i64 l1, .int .i64 (2 * r2)] 40) := by have := blk_new w11 (.cells #[.int .i64 l0, .int .i64 l1, .int .i64 (2 * r2)] 40); simpa using this
          have hP12 := blk_old hP11 (.cells #[.int .i64 l0, .int .i64 l1, .int .i64 (2 * r2)] 40)
          have hR12 := blk_old hR11 (.cells #[.int .i64 l0, .int .i64 l1, .int .i64 (2 * r2)] 40)
          have hS12 := blk_old hS11 (.cells #[.int .i64 l0, .int .i64 l1, .int .i64 (2 * r2)] 40)
          have hF12 := blk_old hF11 (.cells #[.int .i64 l0, .int .i64 l1, .int .i64 (2 * r2)] 40)
          have hG12 := blk_old hG11 (.cells #[.int .i64 l0, .int .i64 l1, .int .i64 (2 * r2)] 40)
          have hB12 := hB11.alloc hB11.size (.cells #[.int .i64 l0, .int .i64 l1, .int .i64 (2 * r2)] 40)
          have zBL := hB11.size
          obtain ⟨cP12_0, cP12_1, fP12_0, fP12_1, zP12⟩ := blk2 hP12
          obtain ⟨cF12_0, cF12_1, cF12_2, fF12_0, fF12_1, fF12_2, zF12⟩ := blk3 hF12
          obtain ⟨cG12_0, cG12_1, cG12_2, fG12_0, fG12_1, fG12_2, zG12⟩ := blk3 hG12
          obtain ⟨cS12_0, cS12_1, cS12_2, fS12_0, fS12_1, fS12_2, zS12⟩ := blk3 hS12
          obtain ⟨cL12_0, cL12_1, cL12_2, fL12_0, fL12_1, fL12_2, zL12⟩ := blk3 hL12
          go_wp2_with fail
          refine (iSS_is _ HA.out).mono ?_; rintro e' w13 ⟨rfl, hw13⟩
          have hP13 := blk_next hP12 hw13
          have hR13 := blk_next hR12 hw13
          have hS13 := blk_next hS12 hw13
          have hF13 := blk_next hF12 hw13
          have hG13 := blk_next hG12 hw13
          have hL13 := blk_next hL12 hw13
          have hB13 := bel_next hB12 hw13
          obtain ⟨cS13_0, cS13_1, cS13_2, fS13_0, fS13_1, fS13_2, zS13⟩ := blk3 hS13
          obtain ⟨cF13_0, cF13_1, cF13_2, fF13_0, fF13_1, fF13_2, zF13⟩ := blk3 hF13
          obtain ⟨cG13_0, cG13_1, cG13_2, fG13_0, fG13_1, fG13_2, zG13⟩ := blk3 hG13
          obtain ⟨cL13_0, cL13_1, cL13_2, fL13_0, fL13_1, fL13_2, zL13⟩ := blk3 hL13
          go_wp2_with fail
          refine (iSS_is _ HE.out).mono ?_; rintro e' w14 ⟨rfl, hw14⟩
          have hP14 := blk_next hP13 hw14
          have hR14 := blk_next hR13 hw14
          have hS14 := blk_next hS13 hw14
          have hF14 := blk_next hF13 hw14
          have hG14 := blk_next hG13 hw14
          have hL14 := blk_next hL13 hw14
          have hB14 := bel_next hB13 hw14
          go_wp2
          go_ret
          exact ⟨rfl, by first | exact hB14 | exact hB14.drew⟩
      · go_wp2_with fail
        refine (iTip_is _ HC.out HG0.out HG1.out).mono ?_; rintro e' w9 ⟨rfl, hw9⟩
        have hP9 := blk_next hP8 hw9
        have hR9 := blk_next hR8 hw9
        have hS9 := blk_next hS8 hw9
        have hF9 := blk_next hF8 hw9
        have hB9 := bel_next hB8 hw9
        have zPG := blk_lt hP9
        have zRG := blk_lt hR9
        have zSG := blk_lt hS9
        have zFG := blk_lt hF9
        have hG10 : (w9.alloc (.cells #[.int .i64 g0, .int .i64 g1, .int .i64 r2] 40)).heap[w9.heap.size]? = some (.cells #[.int .i64 g0, .int .i64 g1, .int .i64 r2] 40) := by have := blk_new w9 (.cells #[.int .i64 g0, .int .i64 g1, .int .i64 r2] 40); simpa using this
        have hP10 := blk_old hP9 (.cells #[.int .i64 g0, .int .i64 g1, .int .i64 r2] 40)
        have hR10 := blk_old hR9 (.cells #[.int .i64 g0, .int .i64 g1, .int .i64 r2] 40)
        have hS10 := blk_old hS9 (.cells #[.int .i64 g0, .int .i64 g1, .int .i64 r2] 40)
        have hF10 := blk_old hF9 (.cells #[.int .i64 g0, .int .i64 g1, .int .i64 r2] 40)
        have hB10 := hB9.alloc hB9.size (.cells #[.int .i64 g0, .int .i64 g1, .int .i64 r2] 40)
        have zBG := hB9.size
        obtain ⟨cP10_0, cP10_1, fP10_0, fP10_1, zP10⟩ := blk2 hP10
        obtain ⟨cR10_0, cR10_1, cR10_2, fR10_0, fR10_1, fR10_2, zR10⟩ := blk3 hR10
        cases mv
        · go_wp2_with fail
          refine (iTip_f _ _ _ _ _ _ _ HM.out).mono ?_; rintro e' w11 ⟨rfl, hw11⟩
          have hP11 := blk_next hP10 hw11
          have hR11 := blk_next hR10 hw11
          have hS11 := blk_next hS10 hw11
          have hF11 := blk_next hF10 hw11
          have hG11 := blk_next hG10 hw11
          have hB11 := bel_next hB10 hw11
          have zPL := blk_lt hP11
          have zRL := blk_lt hR11
          have zSL := blk_lt hS11
          have zFL := blk_lt hF11
          have zGL := blk_lt hG11
          have hL12 : (w11.alloc (.cells #[.int .i64 0, .int .i64 0, .int .i64 0] 40)).heap[w11.heap.size]? = some (.cells #[.int .i64 0, .int .i64 0, .int .i64 0] 40) := by have := blk_new w11 (.cells #[.int .i64 0, .int .i64 0, .int .i64 0] 40); simpa using this
          have hP12 := blk_old hP11 (.cells #[.int .i64 0, .int .i64 0, .int .i64 0] 40)
          have hR12 := blk_old hR11 (.cells #[.int .i64 0, .int .i64 0, .int .i64 0] 40)
          have hS12 := blk_old hS11 (.cells #[.int .i64 0, .int .i64 0, .int .i64 0] 40)
          have hF12 := blk_old hF11 (.cells #[.int .i64 0, .int .i64 0, .int .i64 0] 40)
          have hG12 := blk_old hG11 (.cells #[.int .i64 0, .int .i64 0, .int .i64 0] 40)
          have hB12 := hB11.alloc hB11.size (.cells #[.int .i64 0, .int .i64 0, .int .i64 0] 40)
          have zBL := hB11.size
          obtain ⟨cP12_0, cP12_1, fP12_0, fP12_1, zP12⟩ := blk2 hP12
          obtain ⟨cF12_0, cF12_1, cF12_2, fF12_0, fF12_1, fF12_2, zF12⟩ := blk3 hF12
          obtain ⟨cG12_0, cG12_1, cG12_2, fG12_0, fG12_1, fG12_2, zG12⟩ := blk3 hG12
          obtain ⟨cS12_0, cS12_1, cS12_2, fS12_0, fS12_1, fS12_2, zS12⟩ := blk3 hS12
          obtain ⟨cL12_0, cL12_1, cL12_2, fL12_0, fL12_1, fL12_2, zL12⟩ := blk3 hL12
          go_wp2_with fail
          refine (iSS_is _ HA.out).mono ?_; rintro e' w13 ⟨rfl, hw13⟩
          have hP13 := blk_next hP12 hw13
          have hR13 := blk_next hR12 hw13
          have hS13 := blk_next hS12 hw13
          have hF13 := blk_next hF12 hw13
          have hG13 := blk_next hG12 hw13
          have hL13 := blk_next hL12 hw13
          have hB13 := bel_next hB12 hw13
          obtain ⟨cS13_0, cS13_1, cS13_2, fS13_0, fS13_1, fS13_2, zS13⟩ := blk3 hS13
          obtain ⟨cF13_0, cF13_1, cF13_2, fF13_0, fF13_1, fF13_2, zF13⟩ := blk3 hF13
          obtain ⟨cG13_0, cG13_1, cG13_2, fG13_0, fG13_1, fG13_2, zG13⟩ := blk3 hG13
          obtain ⟨cL13_0, cL13_1, cL13_2, fL13_0, fL13_1, fL13_2, zL13⟩ := blk3 hL13
          go_wp2
          go_ret
          exact ⟨rfl, by first | exact hB13 | exact hB13.drew⟩
        · go_wp2_with fail
          refine (iTip_is _ HM.out HL0.out HL1.out).mono ?_; rintro e' w11 ⟨rfl, hw11⟩
          have hP11 := blk_next hP10 hw11
          have hR11 := blk_next hR10 hw11
          have hS11 := blk_next hS10 hw11
          have hF11 := blk_next hF10 hw11
          have hG11 := blk_next hG10 hw11
          have hB11 := bel_next hB10 hw11
          have zPL := blk_lt hP11
          have zRL := blk_lt hR11
          have zSL := blk_lt hS11
          have zFL := blk_lt hF11
          have zGL := blk_lt hG11
          have hL12 : (w11.alloc (.cells #[.int .i64 l0, .int .i64 l1, .int .i64 (2 * r2)] 40)).heap[w11.heap.size]? = some (.cells #[.int .i64 l0, .int .i64 l1, .int .i64 (2 * r2)] 40) := by have := blk_new w11 (.cells #[.int .i64 l0, .int .i64 l1, .int .i64 (2 * r2)] 40); simpa using this
          have hP12 := blk_old hP11 (.cells #[.int .i64 l0, .int .i64 l1, .int .i64 (2 * r2)] 40)
          have hR12 := blk_old hR11 (.cells #[.int .i64 l0, .int .i64 l1, .int .i64 (2 * r2)] 40)
          have hS12 := blk_old hS11 (.cells #[.int .i64 l0, .int .i64 l1, .int .i64 (2 * r2)] 40)
          have hF12 := blk_old hF11 (.cells #[.int .i64 l0, .int .i64 l1, .int .i64 (2 * r2)] 40)
          have hG12 := blk_old hG11 (.cells #[.int .i64 l0, .int .i64 l1, .int .i64 (2 * r2)] 40)
          have hB12 := hB11.alloc hB11.size (.cells #[.int .i64 l0, .int .i64 l1, .int .i64 (2 * r2)] 40)
          have zBL := hB11.size
          obtain ⟨cP12_0, cP12_1, fP12_0, fP12_1, zP12⟩ := blk2 hP12
          obtain ⟨cF12_0, cF12_1, cF12_2, fF12_0, fF12_1, fF12_2, zF12⟩ := blk3 hF12
          obtain ⟨cG12_0, cG12_1, cG12_2, fG12_0, fG12_1, fG12_2, zG12⟩ := blk3 hG12
          obtain ⟨cS12_0, cS12_1, cS12_2, fS12_0, fS12_1, fS12_2, zS12⟩ := blk3 hS12
          obtain ⟨cL12_0, cL12_1, cL12_2, fL12_0, fL12_1, fL12_2, zL12⟩ := blk3 hL12
          go_wp2_with fail
          refine (iSS_is _ HA.out).mono ?_; rintro e' w13 ⟨rfl, hw13⟩
          have hP13 := blk_next hP12 hw13
          have hR13 := blk_next hR12 hw13
          have hS13 := blk_next hS12 hw13
          have hF13 := blk_next hF12 hw13
          have hG13 := blk_next hG12 hw13
          have hL13 := blk_next hL12 hw13
          have hB13 := bel_next hB12 hw13
          obtain ⟨cS13_0, cS13_1, cS13_2, fS13_0, fS13_1, fS13_2, zS13⟩ := blk3 hS13
          obtain ⟨cF13_0, cF13_1, cF13_2, fF13_0, fF13_1, fF13_2, zF13⟩ := blk3 hF13
          obtain ⟨cG13_0, cG13_1, cG13_2, fG13_0, fG13_1, fG13_2, zG13⟩ := blk3 hG13
          obtain ⟨cL13_0, cL13_1, cL13_2, fL13_0, fL13_1, fL13_2, zL13⟩ := blk3 hL13
          go_wp2_with fail
          refine (iSS_is _ HE.out).mono ?_; rintro e' w14 ⟨rfl, hw14⟩
          have hP14 := blk_next hP13 hw14
          have hR14 := blk_next hR13 hw14
          have hS14 := blk_next hS13 hw14
          have hF14 := blk_next hF13 hw14
          have hG14 := blk_next hG13 hw14
          have hL14 := blk_next hL13 hw14
          have hB14 := bel_next hB13 hw14
          go_wp2
          go_ret
          exact ⟨rfl, by first | exact hB14 | exact hB14.drew⟩

set_option maxRecDepth 100000 in
theorem lifted (os : Os) (started : os.Started) (H : Type) (enc : TypeId × Value → H) :
    ReturnsInHanded {} Try.checked os 6 .any (Rows.fnTipOfSpec.pre6 enc Try.prog Try.f6 Rows.fnTipOfRow.domain false) (Rows.fnTipOfSpec.post enc Try.prog Try.f6 false true false false) := by
  refine returnsInHanded_of_change (C := Try.checked) own started (by kernel_rfl) Try.func6
    (ChangeSpec.witness6 (enc := enc) (C := Try.checked) false ⟨#[], #[.slice none 0 0], []⟩ 8 (by kernel_rfl) (by kernel_rfl) (by kernel_rfl) (by kernel_rfl)) ?_
  intro W base args ds gs before hval0 hW hcnd _
  have hval : ∀ (j : Nat) t v, Try.f6.params[j]? = some t → args[j]? = some v → Value.okWide Try.prog W .any base t v := hval0
  have hW' := hW
  obtain ⟨p, q, hA0, hV, rfl, hfz, hnd⟩ := hW
  have hA : DataW.TrodAll enc Try.prog W 0 (fun _ => true) true Try.f6.params.toList args.toList ds p := hA0
  rw [Try.params6] at hA hval
  obtain ⟨v0, vs0, d0, ds0, p0, q0, hargs, rfl, rfl, h0, r0⟩ := trodAll_cons hA
  obtain ⟨rfl, rfl, rfl⟩ := trodAll_nil r0
  obtain rfl : args = #[v0] := by cases args; simp_all
  obtain ⟨rfl, rfl⟩ := trodVars_none hV
  have k0 := h0
  have lt0 : ∀ x ∈ p0, x.block < W.heap.size := by obtain ⟨m, hm⟩ := k0; exact DataW.trod_lt m _ _ _ hm
  obtain ⟨a0, len0, cap0, rfl⟩ := okWide_slice Try.underlying22 (hval 0 22 v0 rfl rfl)
  have w0 : CodeOk W a0 len0 cap0 := by
    obtain ⟨fuel, hf⟩ := h0
    rcases open_ints Try.underlying22 Try.underlying5 (by kernel_rfl) hf with ⟨hcs, _⟩ | ⟨x, l, c, zs, hcs, _, hl, hm, hz, _, hcell, hwz⟩
    · simp [Value.cells] at hcs
      obtain ⟨rfl, rfl, rfl⟩ := hcs
      exact code_nil W
    · simp [Value.cells] at hcs
      obtain ⟨rfl, rfl, rfl⟩ := hcs
      exact code_ok hl hm (by simp at hz; omega) hcell hwz
  clear hA0 hval0
  refine (walk W a0 len0 cap0 w0).mono fun e W' ⟨he, bel⟩ => ?_
  subst he
  exact ⟨_, rfl, _, _, _, [], _, [], hW', trodAll_mk1 (shut_bool Try.underlying4 _), (trodAll_cons_mk (Below.trod laidOut (by kernel_rfl) (of_decide_eq_true (by kernel_rfl)) k0 bel lt0) trodAll_mk0), rfl, bel.frame _, fun h => by cases h⟩

theorem over : Rows.fnTipOfRow.holds Try.pinned (OpenSpec.ofChange Rows.fnTipOfSpec) :=
  OpenClaim.holds_of_wide 6 Try.f6 rfl rfl rfl rfl rfl rfl rfl ⟨rfl, rfl, rfl, rfl, rfl⟩ rfl rfl rfl rfl rfl (by kernel_rfl) Try.func6 (by kernel_rfl)
    (of_decide_eq_true (by kernel_rfl)) (by unfold Func.isWrapper; first | (rw [if_pos (by decide +kernel)]; kernel_rfl) | (rw [if_neg (by decide +kernel)]; exact ⟨rfl, rfl⟩))
    (fun os started H enc _ => lifted os started H enc)

/-- The statement. -/
theorem proved : Rows.FnTipOfSaid :=
  over
#print axioms proved
end Go.Proofs.Ytlahjgjjebkpjaa.fnTipOf
