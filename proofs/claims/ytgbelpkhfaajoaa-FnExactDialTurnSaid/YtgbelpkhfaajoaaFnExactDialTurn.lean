/- FnExactDialTurn: whatever the input, the law returns true, and its arguments read as they did. No conditions beyond those of the statement's row. -/
import Derived.Test.YtgbelpkhfaajoaaHd
import Derived.Test.YtgbelpkhfaajoaaGWay
namespace Go.Proofs.Ytgbelpkhfaajoaa.fnExactDialTurn
open Go.Proofs.Ytgbelpkhfaajoaa
open Go.ChangeShapes Go.WideShapes Go.ChangeAt Go.RowKit Go.Joins
set_option linter.unusedVariables false
set_option linter.unusedSimpArgs false
set_option linter.unnecessarySimpa false

theorem own : ownKnob Try.prog.godebug = none := by kernel_rfl
theorem laidOut : laidOutB Try.prog = true := by kernel_rfl
theorem cells0 : Try.prog.cellsOf 33 = 2 := by kernel_rfl
set_option maxRecDepth 100000 in
set_option maxHeartbeats 4000000 in
theorem walk (a0_0 : Int) (w0_0 : (Lit.int .i64 a0_0).wf = true) (a0_1 : Int) (w0_1 : (Lit.int .i64 a0_1).wf = true) (w : World) :
    Calls Try.prog 9 #[.agg #[.int .i64 a0_0, .int .i64 a0_1]] w fun e w' => e = .returned (.bool true) ∧ Below w.heap.size w w' := by
  cases hw : wvB a0_0 a0_1
  · have HW := Lib.hid hw
    clear hw
    go_enter Try.func9, Try.ntmps9
    have hB0 := Below.refl w.heap.size w
    have hP1 := blk_new w (.cells #[.int .i64 a0_0, .int .i64 a0_1] 33)
    have hB1 := hB0.alloc hB0.size (.cells #[.int .i64 a0_0, .int .i64 a0_1] 33)
    obtain ⟨cP1_0, cP1_1, fP1_0, fP1_1, zP1⟩ := blk2 hP1
    go_wp2_with fail
    refine (toWay_any _ _ _).mono ?_; rintro e' w2 ⟨rfl, hw2⟩
    have hP2 := blk_next hP1 hw2
    have hB2 := bel_next hB1 hw2
    obtain ⟨cP2_0, cP2_1, fP2_0, fP2_1, zP2⟩ := blk2 hP2
    go_wp2_with fail
    refine (sDT_f _ _ _ HW.out).mono ?_; rintro e' w3 ⟨rfl, hw3⟩
    have hP3 := blk_next hP2 hw3
    have hB3 := bel_next hB2 hw3
    have hS4 := blk_new w3 (.cells #[.int .i64 0, .int .i64 0] 24)
    have hP4 := blk_old hP3 (.cells #[.int .i64 0, .int .i64 0] 24)
    have hB4 := hB3.alloc hB3.size (.cells #[.int .i64 0, .int .i64 0] 24)
    obtain ⟨cP4_0, cP4_1, fP4_0, fP4_1, zP4⟩ := blk2 hP4
    go_wp2_with fail
    refine (toWay_any _ _ _).mono ?_; rintro e' w5 ⟨rfl, hw5⟩
    have hP5 := blk_next hP4 hw5
    have hS5 := blk_next hS4 hw5
    have hB5 := bel_next hB4 hw5
    obtain ⟨cP5_0, cP5_1, fP5_0, fP5_1, zP5⟩ := blk2 hP5
    obtain ⟨cS5_0, cS5_1, fS5_0, fS5_1, zS5⟩ := blk2 hS5
    go_wp2_with fail
    refine (iDT_f _ _ _ HW.out).mono ?_; rintro e' w6 ⟨rfl, hw6⟩
    have hP6 := blk_next hP5 hw6
    have hS6 := blk_next hS5 hw6
    have hB6 := bel_next hB5 hw6
    have hI7 := blk_new w6 (.cells #[.int .i64 0, .int .i64 0] 24)
    have hP7 := blk_old hP6 (.cells #[.int .i64 0, .int .i64 0] 24)
    have hS7 := blk_old hS6 (.cells #[.int .i64 0, .int .i64 0] 24)
    have hB7 := hB6.alloc hB6.size (.cells #[.int .i64 0, .int .i64 0] 24)
    obtain ⟨cP7_0, cP7_1, fP7_0, fP7_1, zP7⟩ := blk2 hP7
    obtain ⟨cS7_0, cS7_1, fS7_0, fS7_1, zS7⟩ := blk2 hS7
    obtain ⟨cI7_0, cI7_1, fI7_0, fI7_1, zI7⟩ := blk2 hI7
    go_wp2_with fail
    refine (eqWay_same _ _ _).mono ?_; rintro e' w8 ⟨rfl, hw8⟩
    have hP8 := blk_next hP7 hw8
    have hS8 := blk_next hS7 hw8
    have hI8 := blk_next hI7 hw8
    have hB8 := bel_next hB7 hw8
    go_wp2
    go_ret
    exact ⟨rfl, by first | exact hB8 | exact hB8.drew⟩
  · have HW := Lib.hid hw
    clear hw
    go_enter Try.func9, Try.ntmps9
    have hB0 := Below.refl w.heap.size w
    have hP1 := blk_new w (.cells #[.int .i64 a0_0, .int .i64 a0_1] 33)
    have hB1 := hB0.alloc hB0.size (.cells #[.int .i64 a0_0, .int .i64 a0_1] 33)
    obtain ⟨cP1_0, cP1_1, fP1_0, fP1_1, zP1⟩ := blk2 hP1
    go_wp2_with fail
    refine (toWay_any _ _ _).mono ?_; rintro e' w2 ⟨rfl, hw2⟩
    have hP2 := blk_next hP1 hw2
    have hB2 := bel_next hB1 hw2
    obtain ⟨cP2_0, cP2_1, fP2_0, fP2_1, zP2⟩ := blk2 hP2
    go_wp2_with fail
    refine (sDT_t _ _ _ HW.out).mono ?_; rintro e' w3 ⟨rfl, hw3⟩
    have hP3 := blk_next hP2 hw3
    have hB3 := bel_next hB2 hw3
    have hS4 := blk_new w3 (.cells #[.int .i64 (-a0_0), .int .i64 (-a0_1)] 24)
    have hP4 := blk_old hP3 (.cells #[.int .i64 (-a0_0), .int .i64 (-a0_1)] 24)
    have hB4 := hB3.alloc hB3.size (.cells #[.int .i64 (-a0_0), .int .i64 (-a0_1)] 24)
    obtain ⟨cP4_0, cP4_1, fP4_0, fP4_1, zP4⟩ := blk2 hP4
    go_wp2_with fail
    refine (toWay_any _ _ _).mono ?_; rintro e' w5 ⟨rfl, hw5⟩
    have hP5 := blk_next hP4 hw5
    have hS5 := blk_next hS4 hw5
    have hB5 := bel_next hB4 hw5
    obtain ⟨cP5_0, cP5_1, fP5_0, fP5_1, zP5⟩ := blk2 hP5
    obtain ⟨cS5_0, cS5_1, fS5_0, fS5_1, zS5⟩ := blk2 hS5
    go_wp2_with fail
    refine (iDT_t _ _ _ HW.out).mono ?_; rintro e' w6 ⟨rfl, hw6⟩
    have hP6 := blk_next hP5 hw6
    have hS6 := blk_next hS5 hw6
    have hB6 := bel_next hB5 hw6
    have hI7 := blk_new w6 (.cells #[.int .i64 (-a0_0), .int .i64 (-a0_1)] 24)
    have hP7 := blk_old hP6 (.cells #[.int .i64 (-a0_0), .int .i64 (-a0_1)] 24)
    have hS7 := blk_old hS6 (.cells #[.int .i64 (-a0_0), .int .i64 (-a0_1)] 24)
    have hB7 := hB6.alloc hB6.size (.cells #[.int .i64 (-a0_0), .int .i64 (-a0_1)] 24)
    obtain ⟨cP7_0, cP7_1, fP7_0, fP7_1, zP7⟩ := blk2 hP7
    obtain ⟨cS7_0, cS7_1, fS7_0, fS7_1, zS7⟩ := blk2 hS7
    obtain ⟨cI7_0, cI7_1, fI7_0, fI7_1, zI7⟩ := blk2 hI7
    go_wp2_with fail
    refine (eqWay_same _ _ _).mono ?_; rintro e' w8 ⟨rfl, hw8⟩
    have hP8 := blk_next hP7 hw8
    have hS8 := blk_next hS7 hw8
    have hI8 := blk_next hI7 hw8
    have hB8 := bel_next hB7 hw8
    go_wp2
    go_ret
    exact ⟨rfl, by first | exact hB8 | exact hB8.drew⟩

set_option maxRecDepth 100000 in
theorem lifted (os : Os) (started : os.Started) (H : Type) (enc : TypeId × Value → H) :
    ReturnsInHanded {} Try.checked os 9 .any (Rows.fnExactDialTurnSpec.pre6 enc Try.prog Try.f9 Rows.fnExactDialTurnRow.domain false) (Rows.fnExactDialTurnSpec.post enc Try.prog Try.f9 false true false false) := by
  refine returnsInHanded_of_change (C := Try.checked) own started (by kernel_rfl) Try.func9
    (ChangeSpec.witness6 (enc := enc) (C := Try.checked) false ⟨#[], #[.agg #[.int .i64 0, .int .i64 0]], []⟩ 8 (by kernel_rfl) (by kernel_rfl) (by kernel_rfl) (by kernel_rfl)) ?_
  intro W base args ds gs before hval0 hW hcnd _
  have hval : ∀ (j : Nat) t v, Try.f9.params[j]? = some t → args[j]? = some v → Value.okWide Try.prog W .any base t v := hval0
  have hW' := hW
  obtain ⟨p, q, hA0, hV, rfl, hfz, hnd⟩ := hW
  have hA : DataW.TrodAll enc Try.prog W 0 (fun _ => true) true Try.f9.params.toList args.toList ds p := hA0
  rw [Try.params9] at hA hval
  obtain ⟨v0, vs0, d0, ds0, p0, q0, hargs, rfl, rfl, h0, r0⟩ := trodAll_cons hA
  obtain ⟨rfl, rfl, rfl⟩ := trodAll_nil r0
  obtain rfl : args = #[v0] := by cases args; simp_all
  obtain ⟨rfl, rfl⟩ := trodVars_none hV
  have k0 := h0
  have lt0 : ∀ x ∈ p0, x.block < W.heap.size := by obtain ⟨m, hm⟩ := k0; exact DataW.trod_lt m _ _ _ hm
  obtain ⟨c0_0, c0_1, y0_0, y0_1, m0, rfl, rfl, rfl, hy0_0, hy0_1⟩ := open_agg2 Try.underlying33 (by kernel_rfl) cells0 (hval 0 33 v0 rfl rfl) h0
  obtain ⟨a0_0, e0_0, rfl, w0_0⟩ := DataW.trod_int Try.underlying3 hy0_0
  simp at e0_0
  subst e0_0
  obtain ⟨a0_1, e0_1, rfl, w0_1⟩ := DataW.trod_int Try.underlying3 hy0_1
  simp at e0_1
  subst e0_1
  clear hA0 hval0
  refine (walk a0_0 w0_0 a0_1 w0_1 W).mono fun e W' ⟨he, bel⟩ => ?_
  subst he
  exact ⟨_, rfl, _, _, _, [], _, [], hW', trodAll_mk1 (shut_bool Try.underlying4 _), (trodAll_cons_mk (Below.trod laidOut (by kernel_rfl) (of_decide_eq_true (by kernel_rfl)) k0 bel lt0) trodAll_mk0), rfl, bel.frame _, fun h => by cases h⟩

theorem over : Rows.fnExactDialTurnRow.holds Try.pinned (OpenSpec.ofChange Rows.fnExactDialTurnSpec) :=
  OpenClaim.holds_of_wide 9 Try.f9 rfl rfl rfl rfl rfl rfl rfl ⟨rfl, rfl, rfl, rfl, rfl⟩ rfl rfl rfl rfl rfl (by kernel_rfl) Try.func9 (by kernel_rfl)
    (of_decide_eq_true (by kernel_rfl)) (by unfold Func.isWrapper; first | (rw [if_pos (by decide +kernel)]; kernel_rfl) | (rw [if_neg (by decide +kernel)]; exact ⟨rfl, rfl⟩))
    (fun os started H enc _ => lifted os started H enc)

/-- The statement. -/
theorem proved : Rows.FnExactDialTurnSaid :=
  over
#print axioms proved
end Go.Proofs.Ytgbelpkhfaajoaa.fnExactDialTurn
