/- FnHeightFor: whatever the input, the law returns true, and its arguments read as they did. No conditions beyond those of the statement's row. -/
import Derived.Test.YtlahjgjjebkpjabDd
import Derived.Test.YtlahjgjjebkpjabVe
namespace Go.Proofs.Ytlahjgjjebkpjab.fnHeightFor
open Go.Proofs.Ytlahjgjjebkpjab
open Go.ChangeShapes Go.WideShapes Go.ChangeAt Go.RowKit Go.Joins
set_option linter.unusedVariables false
set_option linter.unusedSimpArgs false
set_option linter.unnecessarySimpa false

theorem own : ownKnob Try.prog.godebug = none := by kernel_rfl
theorem laidOut : laidOutB Try.prog = true := by kernel_rfl

set_option maxRecDepth 100000 in
set_option maxHeartbeats 4000000 in
theorem walk (w : World) (a0 : Option Addr) (len0 cap0 : Nat) (w0 : CodeOk w a0 len0 cap0) :
    Calls Try.prog 6 #[.slice a0 len0 cap0] w fun e w' => e = .returned (.bool true) ∧ Below w.heap.size w w' := by
  by_cases hl : 1048576 < len0
  · have w0' := w0.2.1
    unfold maxLen at w0'
    clear w0
    go_enter Try.func6, Try.ntmps6
    go_wp2
    go_ret
    exact ⟨rfl, Below.refl _ _⟩
  · have w0' := w0.2.1
    unfold maxLen at w0'
    have hle := w0.1
    have HW := Lib.hid w0
    clear w0
    go_enter Try.func6, Try.ntmps6
    go_wp2_with fail
    refine (drHeightFor_any _ _ _ _ HW.out).mono ?_; rintro e w1 ⟨p0, p1, b0, b1, b2, b3, b4, r0, r1, r2, rfl, ⟨p0_0, p0_1⟩, ⟨p1_0, p1_1⟩, ⟨b0_0, b0_1⟩, ⟨b1_0, b1_1⟩, ⟨b2_0, b2_1⟩, ⟨b3_0, b3_1⟩, ⟨b4_0, b4_1⟩, ⟨r0_0, r0_1⟩, ⟨r1_0, r1_1⟩, ⟨r2_0, r2_1⟩, hB0⟩
    cases hv : hfB p0 p1 b0 b1 b2 b3 b4 r0 r1 r2
    · have HV := Lib.hid hv
      clear hv
      have hP1 : (w1.alloc (.cells #[.int .i64 p0, .int .i64 p1] 24)).heap[w1.heap.size]? = some (.cells #[.int .i64 p0, .int .i64 p1] 24) := by have := blk_new w1 (.cells #[.int .i64 p0, .int .i64 p1] 24); simpa using this
      have hB1 := hB0.alloc hB0.size (.cells #[.int .i64 p0, .int .i64 p1] 24)
      have zBP := hB0.size
      have zPQ := blk_lt hP1
      have hQ2 : ((w1.alloc (.cells #[.int .i64 p0, .int .i64 p1] 24)).alloc (.cells #[.int .i64 b0, .int .i64 b1, .int .i64 b2, .int .i64 b3, .int .i64 b4] 26)).heap[w1.heap.size + 1]? = some (.cells #[.int .i64 b0, .int .i64 b1, .int .i64 b2, .int .i64 b3, .int .i64 b4] 26) := by have := blk_new (w1.alloc (.cells #[.int .i64 p0, .int .i64 p1] 24)) (.cells #[.int .i64 b0, .int .i64 b1, .int .i64 b2, .int .i64 b3, .int .i64 b4] 26); simpa using this
      have hP2 := blk_old hP1 (.cells #[.int .i64 b0, .int .i64 b1, .int .i64 b2, .int .i64 b3, .int .i64 b4] 26)
      have hB2 := hB1.alloc hB1.size (.cells #[.int .i64 b0, .int .i64 b1, .int .i64 b2, .int .i64 b3, .int .i64 b4] 26)
      have zBQ := hB1.size
      have zPR := blk_lt hP2
      have zQR := blk_lt hQ2
      have hR3 : (((w1.alloc (.cells #[.int .i64 p0, .int .i64 p1] 24)).alloc (.cells #[.int .i64 b0, .int .i64 b1, .int .i64 b2, .int .i64 b3, .int .i64 b4] 26)).alloc (.cells #[.int .i64 r0, .int .i64 r1, .int .i64 r2] 28)).heap[w1.heap.size + 1 + 1]? = some (.cells #[.int .i64 r0, .int .i64 r1, .int .i64 r2] 28) := by have := blk_new ((w1.alloc (.cells #[.int .i64 p0, .int .i64 p1] 24)).alloc (.cells #[.int .i64 b0, .int .i64 b1, .int .i64 b2, .int .i64 b3, .int .i64 b4] 26)) (.cells #[.int .i64 r0, .int .i64 r1, .int .i64 r2] 28); simpa using this
      have hP3 := blk_old hP2 (.cells #[.int .i64 r0, .int .i64 r1, .int .i64 r2] 28)
      have hQ3 := blk_old hQ2 (.cells #[.int .i64 r0, .int .i64 r1, .int .i64 r2] 28)
      have hB3 := hB2.alloc hB2.size (.cells #[.int .i64 r0, .int .i64 r1, .int .i64 r2] 28)
      have zBR := hB2.size
      obtain ⟨cP3_0, cP3_1, fP3_0, fP3_1, zP3⟩ := blk2 hP3
      obtain ⟨cQ3_0, cQ3_1, cQ3_2, cQ3_3, cQ3_4, fQ3_0, fQ3_1, fQ3_2, fQ3_3, fQ3_4, zQ3⟩ := blk5 hQ3
      obtain ⟨cR3_0, cR3_1, cR3_2, fR3_0, fR3_1, fR3_2, zR3⟩ := blk3 hR3
      go_wp2_with fail
      refine (iHF_f _ _ _ _ _ _ _ _ _ _ _ HV.out).mono ?_; rintro e' w4 ⟨rfl, hw4⟩
      have hP4 := blk_next hP3 hw4
      have hQ4 := blk_next hQ3 hw4
      have hR4 := blk_next hR3 hw4
      have hB4 := bel_next hB3 hw4
      obtain ⟨cP4_0, cP4_1, fP4_0, fP4_1, zP4⟩ := blk2 hP4
      obtain ⟨cQ4_0, cQ4_1, cQ4_2, cQ4_3, cQ4_4, fQ4_0, fQ4_1, fQ4_2, fQ4_3, fQ4_4, zQ4⟩ := blk5 hQ4
      obtain ⟨cR4_0, cR4_1, cR4_2, fR4_0, fR4_1, fR4_2, zR4⟩ := blk3 hR4
      go_wp2_with fail
      refine (sHF_f _ _ _ _ _ _ _ _ _ _ _ HV.out).mono ?_; rintro e' w5 ⟨rfl, hw5⟩
      have hP5 := blk_next hP4 hw5
      have hQ5 := blk_next hQ4 hw5
      have hR5 := blk_next hR4 hw5
      have hB5 := bel_next hB4 hw5
      go_wp2_with fail
      refine (alive_bel _).mono ?_; rintro e' w6 ⟨rfl, hw6⟩
      have hP6 := blk_next hP5 hw6
      have hQ6 := blk_next hQ5 hw6
      have hR6 := blk_next hR5 hw6
      have hB6 := bel_next hB5 hw6
      go_wp2
      go_ret
      exact ⟨rfl, by first | exact hB6 | exact hB6.drew⟩
    · have HV := Lib.hid hv
      clear hv
      have hP1 : (w1.alloc (.cells #[.int .i64 p0, .int .i64 p1] 24)).heap[w1.heap.size]? = some (.cells #[.int .i64 p0, .int .i64 p1] 24) := by have := blk_new w1 (.cells #[.int .i64 p0, .int .i64 p1] 24); simpa using this
      have hB1 := hB0.alloc hB0.size (.cells #[.int .i64 p0, .int .i64 p1] 24)
      have zBP := hB0.size
      have zPQ := blk_lt hP1
      have hQ2 : ((w1.alloc (.cells #[.int .i64 p0, .int .i64 p1] 24)).alloc (.cells #[.int .i64 b0, .int .i64 b1, .int .i64 b2, .int .i64 b3, .int .i64 b4] 26)).heap[w1.heap.size + 1]? = some (.cells #[.int .i64 b0, .int .i64 b1, .int .i64 b2, .int .i64 b3, .int .i64 b4] 26) := by have := blk_new (w1.alloc (.cells #[.int .i64 p0, .int .i64 p1] 24)) (.cells #[.int .i64 b0, .int .i64 b1, .int .i64 b2, .int .i64 b3, .int .i64 b4] 26); simpa using this
      have hP2 := blk_old hP1 (.cells #[.int .i64 b0, .int .i64 b1, .int .i64 b2, .int .i64 b3, .int .i64 b4] 26)
      have hB2 := hB1.alloc hB1.size (.cells #[.int .i64 b0, .int .i64 b1, .int .i64 b2, .int .i64 b3, .int .i64 b4] 26)
      have zBQ := hB1.size
      have zPR := blk_lt hP2
      have zQR := blk_lt hQ2
      have hR3 : (((w1.alloc (.cells #[.int .i64 p0, .int .i64 p1] 24)).alloc (.cells #[.int .i64 b0, .int .i64 b1, .int .i64 b2, .int .i64 b3, .int .i64 b4] 26)).alloc (.cells #[.int .i64 r0, .int .i64 r1, .int .i64 r2] 28)).heap[w1.heap.size + 1 + 1]? = some (.cells #[.int .i64 r0, .int .i64 r1, .int .i64 r2] 28) := by have := blk_new ((w1.alloc (.cells #[.int .i64 p0, .int .i64 p1] 24)).alloc (.cells #[.int .i64 b0, .int .i64 b1, .int .i64 b2, .int .i64 b3, .int .i64 b4] 26)) (.cells #[.int .i64 r0, .int .i64 r1, .int .i64 r2] 28); simpa using this
      have hP3 := blk_old hP2 (.cells #[.int .i64 r0, .int .i64 r1, .int .i64 r2] 28)
      have hQ3 := blk_old hQ2 (.cells #[.int .i64 r0, .int .i64 r1, .int .i64 r2] 28)
      have hB3 := hB2.alloc hB2.size (.cells #[.int .i64 r0, .int .i64 r1, .int .i64 r2] 28)
      have zBR := hB2.size
      obtain ⟨cP3_0, cP3_1, fP3_0, fP3_1, zP3⟩ := blk2 hP3
      obtain ⟨cQ3_0, cQ3_1, cQ3_2, cQ3_3, cQ3_4, fQ3_0, fQ3_1, fQ3_2, fQ3_3, fQ3_4, zQ3⟩ := blk5 hQ3
      obtain ⟨cR3_0, cR3_1, cR3_2, fR3_0, fR3_1, fR3_2, zR3⟩ := blk3 hR3
      go_wp2_with fail
      refine (iHF_t _ _ _ _ _ _ _ _ _ _ _ HV.out).mono ?_; rintro e' w4 ⟨m1, rfl, hm1, hw4⟩
      have hP4 := blk_next hP3 hw4
      have hQ4 := blk_next hQ3 hw4
      have hR4 := blk_next hR3 hw4
      have hB4 := bel_next hB3 hw4
      obtain ⟨cP4_0, cP4_1, fP4_0, fP4_1, zP4⟩ := blk2 hP4
      obtain ⟨cQ4_0, cQ4_1, cQ4_2, cQ4_3, cQ4_4, fQ4_0, fQ4_1, fQ4_2, fQ4_3, fQ4_4, zQ4⟩ := blk5 hQ4
      obtain ⟨cR4_0, cR4_1, cR4_2, fR4_0, fR4_1, fR4_2, zR4⟩ := blk3 hR4
      go_wp2_with fail
      refine (sHF_t _ _ _ _ _ _ _ _ _ _ _ HV.out).mono ?_; rintro e' w5 ⟨m2, rfl, hm2, hw5⟩
      have hP5 := blk_next hP4 hw5
      have hQ5 := blk_next hQ4 hw5
      have hR5 := blk_next hR4 hw5
      have hB5 := bel_next hB4 hw5
      obtain rfl := hm1.unique hm2
      clear hm2
      obtain ⟨m0, m30, hm⟩ := hm1
      have HM := Lib.hid hm
      clear hm
      have hmn : ¬ m1 < 0 := by omega
      go_wp2_with fail
      go_loopw [7] (fun s7 wr => ∃ k : Int, 1 ≤ k ∧ k ≤ 31 ∧ s7 = .int .i64 k ∧ wr.heap[w1.heap.size]? = some (.cells #[.int .i64 p0, .int .i64 p1] 24) ∧ wr.heap[w1.heap.size + 1]? = some (.cells #[.int .i64 b0, .int .i64 b1, .int .i64 b2, .int .i64 b3, .int .i64 b4] 26) ∧ wr.heap[w1.heap.size + 1 + 1]? = some (.cells #[.int .i64 r0, .int .i64 r1, .int .i64 r2] 28) ∧ Below w.heap.size w wr) (fun s7 _ => (31 - intOf s7).toNat)
      case atStart => exact ⟨1, by omega, by omega, rfl, hP5, hQ5, hR5, hB5⟩
      case round =>
        clear hP5 hQ5 hR5
        obtain ⟨k, k0, k1, rfl, hP0, hQ0, hR0, hB0⟩ := hrel
        by_cases hlt : k ≤ 30
        · by_cases hc : m1 < k
          · have HK : Hid (shB p0 p1 b0 b1 b2 b3 k r0 r1 r2 = true) := by show _ = _; rw [HM.out k k0 hlt]; simp; omega
            obtain ⟨cP0_0, cP0_1, fP0_0, fP0_1, zP0⟩ := blk2 hP0
            obtain ⟨cQ0_0, cQ0_1, cQ0_2, cQ0_3, cQ0_4, fQ0_0, fQ0_1, fQ0_2, fQ0_3, fQ0_4, zQ0⟩ := blk5 hQ0
            obtain ⟨cR0_0, cR0_1, cR0_2, fR0_0, fR0_1, fR0_2, zR0⟩ := blk3 hR0
            have zPF := blk_lt hP0
            have zQF := blk_lt hQ0
            have zRF := blk_lt hR0
            have hF1 : (wr.alloc (.cells #[.int .i64 b0, .int .i64 b1, .int .i64 b2, .int .i64 b3, .int .i64 k] 26)).heap[wr.heap.size]? = some (.cells #[.int .i64 b0, .int .i64 b1, .int .i64 b2, .int .i64 b3, .int .i64 k] 26) := by have := blk_new wr (.cells #[.int .i64 b0, .int .i64 b1, .int .i64 b2, .int .i64 b3, .int .i64 k] 26); simpa using this
            have hP1 := blk_old hP0 (.cells #[.int .i64 b0, .int .i64 b1, .int .i64 b2, .int .i64 b3, .int .i64 k] 26)
            have hQ1 := blk_old hQ0 (.cells #[.int .i64 b0, .int .i64 b1, .int .i64 b2, .int .i64 b3, .int .i64 k] 26)
            have hR1 := blk_old hR0 (.cells #[.int .i64 b0, .int .i64 b1, .int .i64 b2, .int .i64 b3, .int .i64 k] 26)
            have hB1 := hB0.alloc hB0.size (.cells #[.int .i64 b0, .int .i64 b1, .int .i64 b2, .int .i64 b3, .int .i64 k] 26)
            have zBF := hB0.size
            obtain ⟨cP1_0, cP1_1, fP1_0, fP1_1, zP1⟩ := blk2 hP1
            obtain ⟨cF1_0, cF1_1, cF1_2, cF1_3, cF1_4, fF1_0, fF1_1, fF1_2, fF1_3, fF1_4, zF1⟩ := blk5 hF1
            obtain ⟨cR1_0, cR1_1, cR1_2, fR1_0, fR1_1, fR1_2, zR1⟩ := blk3 hR1
            go_wp2_with fail
            refine (iSh_is _ HK.out).mono ?_; rintro e' w2 ⟨rfl, hw2⟩
            have hP2 := blk_next hP1 hw2
            have hQ2 := blk_next hQ1 hw2
            have hR2 := blk_next hR1 hw2
            have hF2 := blk_next hF1 hw2
            have hB2 := bel_next hB1 hw2
            go_wp2_with fail
            go_roundw
            case rel => exact ⟨k + 1, by omega, by omega, rfl, hP2, hQ2, hR2, hB2⟩
            case measure => simp [intOf]; omega
          · have HK : Hid (shB p0 p1 b0 b1 b2 b3 k r0 r1 r2 = false) := by show _ = _; rw [HM.out k k0 hlt]; simp; omega
            obtain ⟨cP0_0, cP0_1, fP0_0, fP0_1, zP0⟩ := blk2 hP0
            obtain ⟨cQ0_0, cQ0_1, cQ0_2, cQ0_3, cQ0_4, fQ0_0, fQ0_1, fQ0_2, fQ0_3, fQ0_4, zQ0⟩ := blk5 hQ0
            obtain ⟨cR0_0, cR0_1, cR0_2, fR0_0, fR0_1, fR0_2, zR0⟩ := blk3 hR0
            have zPF := blk_lt hP0
            have zQF := blk_lt hQ0
            have zRF := blk_lt hR0
            have hF1 : (wr.alloc (.cells #[.int .i64 b0, .int .i64 b1, .int .i64 b2, .int .i64 b3, .int .i64 k] 26)).heap[wr.heap.size]? = some (.cells #[.int .i64 b0, .int .i64 b1, .int .i64 b2, .int .i64 b3, .int .i64 k] 26) := by have := blk_new wr (.cells #[.int .i64 b0, .int .i64 b1, .int .i64 b2, .int .i64 b3, .int .i64 k] 26); simpa using this
            have hP1 := blk_old hP0 (.cells #[.int .i64 b0, .int .i64 b1, .int .i64 b2, .int .i64 b3, .int .i64 k] 26)
            have hQ1 := blk_old hQ0 (.cells #[.int .i64 b0, .int .i64 b1, .int .i64 b2, .int .i64 b3, .int .i64 k] 26)
            have hR1 := blk_old hR0 (.cells #[.int .i64 b0, .int .i64 b1, .int .i64 b2, .int .i64 b3, .int .i64 k] 26)
            have hB1 := hB0.alloc hB0.size (.cells #[.int .i64 b0, .int .i64 b1, .int .i64 b2, .int .i64 b3, .int .i64 k] 26)
            have zBF := hB0.size
            obtain ⟨cP1_0, cP1_1, fP1_0, fP1_1, zP1⟩ := blk2 hP1
            obtain ⟨cF1_0, cF1_1, cF1_2, cF1_3, cF1_4, fF1_0, fF1_1, fF1_2, fF1_3, fF1_4, zF1⟩ := blk5 hF1
            obtain ⟨cR1_0, cR1_1, cR1_2, fR1_0, fR1_1, fR1_2, zR1⟩ := blk3 hR1
            go_wp2_with fail
            refine (iSh_is _ HK.out).mono ?_; rintro e' w2 ⟨rfl, hw2⟩
            have hP2 := blk_next hP1 hw2
            have hQ2 := blk_next hQ1 hw2
            have hR2 := blk_next hR1 hw2
            have hF2 := blk_next hF1 hw2
            have hB2 := bel_next hB1 hw2
            go_wp2_with fail
            go_roundw
            case rel => exact ⟨k + 1, by omega, by omega, rfl, hP2, hQ2, hR2, hB2⟩
            case measure => simp [intOf]; omega
        · go_wp2_with fail
          go_ret
          exact ⟨rfl, hB0⟩

set_option maxRecDepth 100000 in
theorem lifted (os : Os) (started : os.Started) (H : Type) (enc : TypeId × Value → H) :
    ReturnsInHanded {} Try.checked os 6 .any (Rows.fnHeightForSpec.pre6 enc Try.prog Try.f6 Rows.fnHeightForRow.domain false) (Rows.fnHeightForSpec.post enc Try.prog Try.f6 false true false false) := by
  refine returnsInHanded_of_change (C := Try.checked) own started (by kernel_rfl) Try.func6
    (ChangeSpec.witness6 (enc := enc) (C := Try.checked) false ⟨#[], #[.slice none 0 0], []⟩ 8 (by kernel_rfl) (by kernel_rfl) (by kernel_rfl) (by kernel_rfl)) ?_
  intro W base args ds gs before hval0 hW hcnd _
  have hval : ∀ (j : Nat) t v, Try.f6.params[j]? = some t → args[j]? = some v → Value.okWide Try.prog W .any base t v := hval0
  have hW' := hW
  obtain ⟨p, q, hA0, hV, rfl, hfz, hnd⟩ := hW
  have hA : DataW.TrodAll enc Try.prog W 0 (fun _ => true) true Try.f6.params.toList args.toList ds p := hA0
  rw [Try.params6] at hA hval
  obtain ⟨v0, vs0, d0, ds0, p0, q0, hargs, rfl, rfl, h0, r0⟩ := trodAll_cons hA
  obtain ⟨rfl, rfl, rfl⟩ := trodAll_nil r0
  obtain rfl : args = #[v0] := by cases args; simp_all
  obtain ⟨rfl, rfl⟩ := trodVars_none hV
  have k0 := h0
  have lt0 : ∀ x ∈ p0, x.block < W.heap.size := by obtain ⟨m, hm⟩ := k0; exact DataW.trod_lt m _ _ _ hm
  obtain ⟨a0, len0, cap0, rfl⟩ := okWide_slice Try.underlying22 (hval 0 22 v0 rfl rfl)
  have w0 : CodeOk W a0 len0 cap0 := by
    obtain ⟨fuel, hf⟩ := h0
    rcases open_ints Try.underlying22 Try.underlying5 (by kernel_rfl) hf with ⟨hcs, _⟩ | ⟨x, l, c, zs, hcs, _, hl, hm, hz, _, hcell, hwz⟩
    · simp [Value.cells] at hcs
      obtain ⟨rfl, rfl, rfl⟩ := hcs
      exact code_nil W
    · simp [Value.cells] at hcs
      obtain ⟨rfl, rfl, rfl⟩ := hcs
      exact code_ok hl hm (by simp at hz; omega) hcell hwz
  clear hA0 hval0
  refine (walk W a0 len0 cap0 w0).mono fun e W' ⟨he, bel⟩ => ?_
  subst he
  exact ⟨_, rfl, _, _, _, [], _, [], hW', trodAll_mk1 (shut_bool Try.underlying4 _), (trodAll_cons_mk (Below.trod laidOut (by kernel_rfl) (of_decide_eq_true (by kernel_rfl)) k0 bel lt0) trodAll_mk0), rfl, bel.frame _, fun h => by cases h⟩

theorem over : Rows.fnHeightForRow.holds Try.pinned (OpenSpec.ofChange Rows.fnHeightForSpec) :=
  OpenClaim.holds_of_wide 6 Try.f6 rfl rfl rfl rfl rfl rfl rfl ⟨rfl, rfl, rfl, rfl, rfl⟩ rfl rfl rfl rfl rfl (by kernel_rfl) Try.func6 (by kernel_rfl)
    (of_decide_eq_true (by kernel_rfl)) (by unfold Func.isWrapper; first | (rw [if_pos (by decide +kernel)]; kernel_rfl) | (rw [if_neg (by decide +kernel)]; exact ⟨rfl, rfl⟩))
    (fun os started H enc _ => lifted os started H enc)

/-- The statement. -/
theorem proved : Rows.FnHeightForSaid :=
  over
#print axioms proved
end Go.Proofs.Ytlahjgjjebkpjab.fnHeightFor
