/- FnSameWay: whatever the input, the law returns true, and its arguments read as they did. No conditions beyond those of the statement's row. -/
import Derived.Test.YtbegajmdadkknabDr5
import Derived.Test.YtbegajmdadkknabWc
import Derived.Test.YtbegajmdadkknabWi
import Derived.Test.YtbegajmdadkknabLp
namespace Go.Proofs.Ytbegajmdadkknab.fnSameWay
open Go.Proofs.Ytbegajmdadkknab
open Go.ChangeShapes Go.WideShapes Go.ChangeAt Go.RowKit Go.Joins
set_option linter.unusedVariables false
set_option linter.unusedSimpArgs false
set_option linter.unnecessarySimpa false

theorem own : ownKnob Try.prog.godebug = none := by kernel_rfl
theorem laidOut : laidOutB Try.prog = true := by kernel_rfl

set_option maxRecDepth 100000 in
set_option maxHeartbeats 4000000 in
theorem walk (w : World) (a0 : Option Addr) (len0 cap0 : Nat) (w0 : CodeOk w a0 len0 cap0) :
    Calls Try.prog 4 #[.slice a0 len0 cap0] w fun e w' => e = .returned (.bool true) ∧ Below w.heap.size w w' := by
  by_cases hl : 1048576 < len0
  · have w0' := w0.2.1
    unfold maxLen at w0'
    clear w0
    go_enter Try.func4, Try.ntmps4
    go_wp2
    go_ret
    exact ⟨rfl, Below.refl _ _⟩
  · have w0' := w0.2.1
    unfold maxLen at w0'
    have hle := w0.1
    have HW := Lib.hid w0
    clear w0
    go_enter Try.func4, Try.ntmps4
    go_wp2_with fail
    refine (drSameWay_any _ _ _ _ HW.out).mono ?_; rintro e w1 ⟨a, b, c, d, rfl, a0, a1, b0, b1, c0, c1, d0, d1, hB0⟩
    obtain ⟨q, hq⟩ : ∃ z : Int, z = a * d - b * c := ⟨_, rfl⟩
    obtain ⟨p, hp⟩ : ∃ z : Int, z = a * c + b * d := ⟨_, rfl⟩
    have hsw : swB a b c d = true ↔ (wvB a b = true ∧ wvB c d = true ∧ q = 0 ∧ 0 < p) := by rw [hq, hp]; exact swB_iff
    have HSW := Lib.hid hsw
    clear hsw
    have HQ := Lib.hid hq
    have HP := Lib.hid hp
    clear hq hp
    cases hs : swB a b c d
    · cases hv : wvB a b
      · go_wp2_with fail
        refine (iSW_any _ _ _ _ _).mono ?_; rintro e w2 ⟨rfl, hw2⟩
        obtain ⟨hP2, hQ2, hB2⟩ := ownb2 hw2
        obtain ⟨cP2_0, cP2_1, fP2_0, fP2_1, zP2⟩ := blk2 hP2
        obtain ⟨cQ2_0, cQ2_1, fQ2_0, fQ2_1, zQ2⟩ := blk2 hQ2
        go_wp2_with fail
        refine (sSW_any _ _ _ _ _).mono ?_; rintro e w3 ⟨rfl, hw3⟩
        have hP3 := blk_next hP2 hw3
        have hQ3 := blk_next hQ2 hw3
        have hB3 := bel_next hB2 hw3
        obtain ⟨cP3_0, cP3_1, fP3_0, fP3_1, zP3⟩ := blk2 hP3
        obtain ⟨cQ3_0, cQ3_1, fQ3_0, fQ3_1, zQ3⟩ := blk2 hQ3
        go_wp2_with fail
        refine (iWV_any _ _ _).mono ?_; rintro e w4 ⟨rfl, hw4⟩
        have hP4 := blk_next hP3 hw4
        have hQ4 := blk_next hQ3 hw4
        have hB4 := bel_next hB3 hw4
        obtain ⟨cP4_0, cP4_1, fP4_0, fP4_1, zP4⟩ := blk2 hP4
        obtain ⟨cQ4_0, cQ4_1, fQ4_0, fQ4_1, zQ4⟩ := blk2 hQ4
        go_wp2_with fail
        refine (alive_bel _).mono ?_; rintro e w5 ⟨rfl, hw5⟩
        have hP5 := blk_next hP4 hw5
        have hQ5 := blk_next hQ4 hw5
        have hB5 := bel_next hB4 hw5
        go_wp2
        go_ret
        exact ⟨rfl, bel_next hB0 hB5⟩
      · cases hv2 : wvB c d
        · go_wp2_with fail
          refine (iSW_any _ _ _ _ _).mono ?_; rintro e w2 ⟨rfl, hw2⟩
          obtain ⟨hP2, hQ2, hB2⟩ := ownb2 hw2
          obtain ⟨cP2_0, cP2_1, fP2_0, fP2_1, zP2⟩ := blk2 hP2
          obtain ⟨cQ2_0, cQ2_1, fQ2_0, fQ2_1, zQ2⟩ := blk2 hQ2
          go_wp2_with fail
          refine (sSW_any _ _ _ _ _).mono ?_; rintro e w3 ⟨rfl, hw3⟩
          have hP3 := blk_next hP2 hw3
          have hQ3 := blk_next hQ2 hw3
          have hB3 := bel_next hB2 hw3
          obtain ⟨cP3_0, cP3_1, fP3_0, fP3_1, zP3⟩ := blk2 hP3
          obtain ⟨cQ3_0, cQ3_1, fQ3_0, fQ3_1, zQ3⟩ := blk2 hQ3
          go_wp2_with fail
          refine (iWV_any _ _ _).mono ?_; rintro e w4 ⟨rfl, hw4⟩
          have hP4 := blk_next hP3 hw4
          have hQ4 := blk_next hQ3 hw4
          have hB4 := bel_next hB3 hw4
          obtain ⟨cP4_0, cP4_1, fP4_0, fP4_1, zP4⟩ := blk2 hP4
          obtain ⟨cQ4_0, cQ4_1, fQ4_0, fQ4_1, zQ4⟩ := blk2 hQ4
          go_wp2_with fail
          refine (iWV_any _ _ _).mono ?_; rintro e w5 ⟨rfl, hw5⟩
          have hP5 := blk_next hP4 hw5
          have hQ5 := blk_next hQ4 hw5
          have hB5 := bel_next hB4 hw5
          obtain ⟨cP5_0, cP5_1, fP5_0, fP5_1, zP5⟩ := blk2 hP5
          obtain ⟨cQ5_0, cQ5_1, fQ5_0, fQ5_1, zQ5⟩ := blk2 hQ5
          go_wp2_with fail
          refine (alive_bel _).mono ?_; rintro e w6 ⟨rfl, hw6⟩
          have hP6 := blk_next hP5 hw6
          have hQ6 := blk_next hQ5 hw6
          have hB6 := bel_next hB5 hw6
          go_wp2
          go_ret
          exact ⟨rfl, bel_next hB0 hB6⟩
        · by_cases hq0 : q = 0
          · have hp0 : ¬ 0 < p := by intro h; have := HSW.out.2 ⟨hv, hv2, hq0, h⟩; rw [hs] at this; cases this
            have hd0 : decide (0 < p) = false := by simpa using hp0
            have hq1 : (q == 0) = true := by simpa using hq0
            go_wp2_with fail
            refine (iSW_any _ _ _ _ _).mono ?_; rintro e w2 ⟨rfl, hw2⟩
            obtain ⟨hP2, hQ2, hB2⟩ := ownb2 hw2
            obtain ⟨cP2_0, cP2_1, fP2_0, fP2_1, zP2⟩ := blk2 hP2
            obtain ⟨cQ2_0, cQ2_1, fQ2_0, fQ2_1, zQ2⟩ := blk2 hQ2
            go_wp2_with fail
            refine (sSW_any _ _ _ _ _).mono ?_; rintro e w3 ⟨rfl, hw3⟩
            have hP3 := blk_next hP2 hw3
            have hQ3 := blk_next hQ2 hw3
            have hB3 := bel_next hB2 hw3
            obtain ⟨cP3_0, cP3_1, fP3_0, fP3_1, zP3⟩ := blk2 hP3
            obtain ⟨cQ3_0, cQ3_1, fQ3_0, fQ3_1, zQ3⟩ := blk2 hQ3
            go_wp2_with fail
            refine (iWV_any _ _ _).mono ?_; rintro e w4 ⟨rfl, hw4⟩
            have hP4 := blk_next hP3 hw4
            have hQ4 := blk_next hQ3 hw4
            have hB4 := bel_next hB3 hw4
            obtain ⟨cP4_0, cP4_1, fP4_0, fP4_1, zP4⟩ := blk2 hP4
            obtain ⟨cQ4_0, cQ4_1, fQ4_0, fQ4_1, zQ4⟩ := blk2 hQ4
            go_wp2_with fail
            refine (iWV_any _ _ _).mono ?_; rintro e w5 ⟨rfl, hw5⟩
            have hP5 := blk_next hP4 hw5
            have hQ5 := blk_next hQ4 hw5
            have hB5 := bel_next hB4 hw5
            obtain ⟨cP5_0, cP5_1, fP5_0, fP5_1, zP5⟩ := blk2 hP5
            obtain ⟨cQ5_0, cQ5_1, fQ5_0, fQ5_1, zQ5⟩ := blk2 hQ5
            go_wp2_with fail
            refine (iCro_is (r := q) _ ((cross_is (by omega) (by omega) (by omega) (by omega)).trans (by rw [HQ.out]))).mono ?_; rintro e w6 ⟨rfl, hw6⟩
            have hP6 := blk_next hP5 hw6
            have hQ6 := blk_next hQ5 hw6
            have hB6 := bel_next hB5 hw6
            obtain ⟨cP6_0, cP6_1, fP6_0, fP6_1, zP6⟩ := blk2 hP6
            obtain ⟨cQ6_0, cQ6_1, fQ6_0, fQ6_1, zQ6⟩ := blk2 hQ6
            go_wp2_with fail
            refine (iDot_is (r := p) _ ((dot_is (by omega) (by omega) (by omega) (by omega)).trans (by rw [HP.out]))).mono ?_; rintro e w7 ⟨rfl, hw7⟩
            have hP7 := blk_next hP6 hw7
            have hQ7 := blk_next hQ6 hw7
            have hB7 := bel_next hB6 hw7
            obtain ⟨cP7_0, cP7_1, fP7_0, fP7_1, zP7⟩ := blk2 hP7
            obtain ⟨cQ7_0, cQ7_1, fQ7_0, fQ7_1, zQ7⟩ := blk2 hQ7
            go_wp2_with fail
            refine (alive_bel _).mono ?_; rintro e w8 ⟨rfl, hw8⟩
            have hP8 := blk_next hP7 hw8
            have hQ8 := blk_next hQ7 hw8
            have hB8 := bel_next hB7 hw8
            go_wp2
            go_ret
            exact ⟨rfl, bel_next hB0 hB8⟩
          · have hq1 : (q == 0) = false := by simpa using hq0
            go_wp2_with fail
            refine (iSW_any _ _ _ _ _).mono ?_; rintro e w2 ⟨rfl, hw2⟩
            obtain ⟨hP2, hQ2, hB2⟩ := ownb2 hw2
            obtain ⟨cP2_0, cP2_1, fP2_0, fP2_1, zP2⟩ := blk2 hP2
            obtain ⟨cQ2_0, cQ2_1, fQ2_0, fQ2_1, zQ2⟩ := blk2 hQ2
            go_wp2_with fail
            refine (sSW_any _ _ _ _ _).mono ?_; rintro e w3 ⟨rfl, hw3⟩
            have hP3 := blk_next hP2 hw3
            have hQ3 := blk_next hQ2 hw3
            have hB3 := bel_next hB2 hw3
            obtain ⟨cP3_0, cP3_1, fP3_0, fP3_1, zP3⟩ := blk2 hP3
            obtain ⟨cQ3_0, cQ3_1, fQ3_0, fQ3_1, zQ3⟩ := blk2 hQ3
            go_wp2_with fail
            refine (iWV_any _ _ _).mono ?_; rintro e w4 ⟨rfl, hw4⟩
            have hP4 := blk_next hP3 hw4
            have hQ4 := blk_next hQ3 hw4
            have hB4 := bel_next hB3 hw4
            obtain ⟨cP4_0, cP4_1, fP4_0, fP4_1, zP4⟩ := blk2 hP4
            obtain ⟨cQ4_0, cQ4_1, fQ4_0, fQ4_1, zQ4⟩ := blk2 hQ4
            go_wp2_with fail
            refine (iWV_any _ _ _).mono ?_; rintro e w5 ⟨rfl, hw5⟩
            have hP5 := blk_next hP4 hw5
            have hQ5 := blk_next hQ4 hw5
            have hB5 := bel_next hB4 hw5
            obtain ⟨cP5_0, cP5_1, fP5_0, fP5_1, zP5⟩ := blk2 hP5
            obtain ⟨cQ5_0, cQ5_1, fQ5_0, fQ5_1, zQ5⟩ := blk2 hQ5
            go_wp2_with fail
            refine (iCro_is (r := q) _ ((cross_is (by omega) (by omega) (by omega) (by omega)).trans (by rw [HQ.out]))).mono ?_; rintro e w6 ⟨rfl, hw6⟩
            have hP6 := blk_next hP5 hw6
            have hQ6 := blk_next hQ5 hw6
            have hB6 := bel_next hB5 hw6
            obtain ⟨cP6_0, cP6_1, fP6_0, fP6_1, zP6⟩ := blk2 hP6
            obtain ⟨cQ6_0, cQ6_1, fQ6_0, fQ6_1, zQ6⟩ := blk2 hQ6
            go_wp2_with fail
            refine (alive_bel _).mono ?_; rintro e w7 ⟨rfl, hw7⟩
            have hP7 := blk_next hP6 hw7
            have hQ7 := blk_next hQ6 hw7
            have hB7 := bel_next hB6 hw7
            go_wp2
            go_ret
            exact ⟨rfl, bel_next hB0 hB7⟩
    · obtain ⟨hv, hv2, hq0, hp0⟩ := HSW.out.1 hs
      have hq1 : (q == 0) = true := by simpa using hq0
      go_wp2_with fail
      refine (iSW_any _ _ _ _ _).mono ?_; rintro e w2 ⟨rfl, hw2⟩
      obtain ⟨hP2, hQ2, hB2⟩ := ownb2 hw2
      obtain ⟨cP2_0, cP2_1, fP2_0, fP2_1, zP2⟩ := blk2 hP2
      obtain ⟨cQ2_0, cQ2_1, fQ2_0, fQ2_1, zQ2⟩ := blk2 hQ2
      go_wp2_with fail
      refine (sSW_any _ _ _ _ _).mono ?_; rintro e w3 ⟨rfl, hw3⟩
      have hP3 := blk_next hP2 hw3
      have hQ3 := blk_next hQ2 hw3
      have hB3 := bel_next hB2 hw3
      obtain ⟨cP3_0, cP3_1, fP3_0, fP3_1, zP3⟩ := blk2 hP3
      obtain ⟨cQ3_0, cQ3_1, fQ3_0, fQ3_1, zQ3⟩ := blk2 hQ3
      go_wp2_with fail
      refine (iWV_any _ _ _).mono ?_; rintro e w4 ⟨rfl, hw4⟩
      have hP4 := blk_next hP3 hw4
      have hQ4 := blk_next hQ3 hw4
      have hB4 := bel_next hB3 hw4
      obtain ⟨cP4_0, cP4_1, fP4_0, fP4_1, zP4⟩ := blk2 hP4
      obtain ⟨cQ4_0, cQ4_1, fQ4_0, fQ4_1, zQ4⟩ := blk2 hQ4
      go_wp2_with fail
      refine (iWV_any _ _ _).mono ?_; rintro e w5 ⟨rfl, hw5⟩
      have hP5 := blk_next hP4 hw5
      have hQ5 := blk_next hQ4 hw5
      have hB5 := bel_next hB4 hw5
      obtain ⟨cP5_0, cP5_1, fP5_0, fP5_1, zP5⟩ := blk2 hP5
      obtain ⟨cQ5_0, cQ5_1, fQ5_0, fQ5_1, zQ5⟩ := blk2 hQ5
      go_wp2_with fail
      refine (iCro_is (r := q) _ ((cross_is (by omega) (by omega) (by omega) (by omega)).trans (by rw [HQ.out]))).mono ?_; rintro e w6 ⟨rfl, hw6⟩
      have hP6 := blk_next hP5 hw6
      have hQ6 := blk_next hQ5 hw6
      have hB6 := bel_next hB5 hw6
      obtain ⟨cP6_0, cP6_1, fP6_0, fP6_1, zP6⟩ := blk2 hP6
      obtain ⟨cQ6_0, cQ6_1, fQ6_0, fQ6_1, zQ6⟩ := blk2 hQ6
      go_wp2_with fail
      refine (iDot_is (r := p) _ ((dot_is (by omega) (by omega) (by omega) (by omega)).trans (by rw [HP.out]))).mono ?_; rintro e w7 ⟨rfl, hw7⟩
      have hP7 := blk_next hP6 hw7
      have hQ7 := blk_next hQ6 hw7
      have hB7 := bel_next hB6 hw7
      obtain ⟨cP7_0, cP7_1, fP7_0, fP7_1, zP7⟩ := blk2 hP7
      obtain ⟨cQ7_0, cQ7_1, fQ7_0, fQ7_1, zQ7⟩ := blk2 hQ7
      go_wp2_with fail
      refine (alive_bel _).mono ?_; rintro e w8 ⟨rfl, hw8⟩
      have hP8 := blk_next hP7 hw8
      have hQ8 := blk_next hQ7 hw8
      have hB8 := bel_next hB7 hw8
      go_wp2
      go_ret
      exact ⟨rfl, bel_next hB0 hB8⟩

set_option maxRecDepth 100000 in
theorem lifted (os : Os) (started : os.Started) (H : Type) (enc : TypeId × Value → H) :
    ReturnsInHanded {} Try.checked os 4 .any (Rows.fnSameWaySpec.pre6 enc Try.prog Try.f4 Rows.fnSameWayRow.domain false) (Rows.fnSameWaySpec.post enc Try.prog Try.f4 false true false false) := by
  refine returnsInHanded_of_change (C := Try.checked) own started (by kernel_rfl) Try.func4
    (ChangeSpec.witness6 (enc := enc) (C := Try.checked) false ⟨#[], #[.slice none 0 0], []⟩ 8 (by kernel_rfl) (by kernel_rfl) (by kernel_rfl) (by kernel_rfl)) ?_
  intro W base args ds gs before hval0 hW hcnd _
  have hval : ∀ (j : Nat) t v, Try.f4.params[j]? = some t → args[j]? = some v → Value.okWide Try.prog W .any base t v := hval0
  have hW' := hW
  obtain ⟨p, q, hA0, hV, rfl, hfz, hnd⟩ := hW
  have hA : DataW.TrodAll enc Try.prog W 0 (fun _ => true) true Try.f4.params.toList args.toList ds p := hA0
  rw [Try.params4] at hA hval
  obtain ⟨v0, vs0, d0, ds0, p0, q0, hargs, rfl, rfl, h0, r0⟩ := trodAll_cons hA
  obtain ⟨rfl, rfl, rfl⟩ := trodAll_nil r0
  obtain rfl : args = #[v0] := by cases args; simp_all
  obtain ⟨rfl, rfl⟩ := trodVars_none hV
  have k0 := h0
  have lt0 : ∀ x ∈ p0, x.block < W.heap.size := by obtain ⟨m, hm⟩ := k0; exact DataW.trod_lt m _ _ _ hm
  obtain ⟨a0, len0, cap0, rfl⟩ := okWide_slice Try.underlying22 (hval 0 22 v0 rfl rfl)
  have w0 : CodeOk W a0 len0 cap0 := by
    obtain ⟨fuel, hf⟩ := h0
    rcases open_ints Try.underlying22 Try.underlying5 (by kernel_rfl) hf with ⟨hcs, _⟩ | ⟨x, l, c, zs, hcs, _, hl, hm, hz, _, hcell, hwz⟩
    · simp [Value.cells] at hcs
      obtain ⟨rfl, rfl, rfl⟩ := hcs
      exact code_nil W
    · simp [Value.cells] at hcs
      obtain ⟨rfl, rfl, rfl⟩ := hcs
      exact code_ok hl hm (by simp at hz; omega) hcell hwz
  clear hA0 hval0
  refine (walk W a0 len0 cap0 w0).mono fun e W' ⟨he, bel⟩ => ?_
  subst he
  exact ⟨_, rfl, _, _, _, [], _, [], hW', trodAll_mk1 (shut_bool Try.underlying4 _), (trodAll_cons_mk (Below.trod laidOut (by kernel_rfl) (of_decide_eq_true (by kernel_rfl)) k0 bel lt0) trodAll_mk0), rfl, bel.frame _, fun h => by cases h⟩

theorem over : Rows.fnSameWayRow.holds Try.pinned (OpenSpec.ofChange Rows.fnSameWaySpec) :=
  OpenClaim.holds_of_wide 4 Try.f4 rfl rfl rfl rfl rfl rfl rfl ⟨rfl, rfl, rfl, rfl, rfl⟩ rfl rfl rfl rfl rfl (by kernel_rfl) Try.func4 (by kernel_rfl)
    (of_decide_eq_true (by kernel_rfl)) (by unfold Func.isWrapper; first | (rw [if_pos (by decide +kernel)]; kernel_rfl) | (rw [if_neg (by decide +kernel)]; exact ⟨rfl, rfl⟩))
    (fun os started H enc _ => lifted os started H enc)

/-- The statement. -/
theorem proved : Rows.FnSameWaySaid :=
  over
#print axioms proved
end Go.Proofs.Ytbegajmdadkknab.fnSameWay
