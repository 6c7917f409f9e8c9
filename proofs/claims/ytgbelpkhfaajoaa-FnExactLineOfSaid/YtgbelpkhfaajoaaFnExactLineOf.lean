/- FnExactLineOf: whatever the input, the law returns true, and its arguments read as they did. No conditions beyond those of the statement's row. -/
import Derived.Test.YtgbelpkhfaajoaaHw
import Derived.Test.YtgbelpkhfaajoaaGWay
namespace Go.Proofs.Ytgbelpkhfaajoaa.fnExactLineOf
open Go.Proofs.Ytgbelpkhfaajoaa
open Go.ChangeShapes Go.WideShapes Go.ChangeAt Go.RowKit Go.Joins
set_option linter.unusedVariables false
set_option linter.unusedSimpArgs false
set_option linter.unnecessarySimpa false

theorem own : ownKnob Try.prog.godebug = none := by kernel_rfl
theorem laidOut : laidOutB Try.prog = true := by kernel_rfl

set_option maxRecDepth 100000 in
set_option maxHeartbeats 4000000 in
theorem walk (a0 : Int) (w0 : (Lit.int .i64 a0).wf = true) (a1 : Int) (w1 : (Lit.int .i64 a1).wf = true) (w : World) :
    Calls Try.prog 4 #[.int .i64 a0, .int .i64 a1] w fun e w' => e = .returned (.bool true) ∧ Below w.heap.size w w' := by
  cases hl : laB a0
  · have HN := Lib.hid (show laB a0 = false ∨ (laB a0 = true ∧ hrB a1 = false) from .inl hl)
    clear hl
    go_enter Try.func4, Try.ntmps4
    have hB0 := Below.refl w.heap.size w
    go_wp2_with fail
    refine (sLn_f _ _ _ HN.out).mono ?_; rintro e' w1 ⟨rfl, hw1⟩
    have hB1 := bel_next hB0 hw1
    have hS2 := blk_new w1 (.cells #[.int .i64 0, .int .i64 0] 24)
    have hB2 := hB1.alloc hB1.size (.cells #[.int .i64 0, .int .i64 0] 24)
    go_wp2_with fail
    refine (iLn_f _ _ _ HN.out).mono ?_; rintro e' w3 ⟨rfl, hw3⟩
    have hS3 := blk_next hS2 hw3
    have hB3 := bel_next hB2 hw3
    have hI4 := blk_new w3 (.cells #[.int .i64 0, .int .i64 0] 24)
    have hS4 := blk_old hS3 (.cells #[.int .i64 0, .int .i64 0] 24)
    have hB4 := hB3.alloc hB3.size (.cells #[.int .i64 0, .int .i64 0] 24)
    obtain ⟨cS4_0, cS4_1, fS4_0, fS4_1, zS4⟩ := blk2 hS4
    obtain ⟨cI4_0, cI4_1, fI4_0, fI4_1, zI4⟩ := blk2 hI4
    go_wp2_with fail
    refine (eqWay_same _ _ _).mono ?_; rintro e' w5 ⟨rfl, hw5⟩
    have hS5 := blk_next hS4 hw5
    have hI5 := blk_next hI4 hw5
    have hB5 := bel_next hB4 hw5
    go_wp2
    go_ret
    exact ⟨rfl, by first | exact hB5 | exact hB5.drew⟩
  · cases hh : hrB a1
    · have HN := Lib.hid (show laB a0 = false ∨ (laB a0 = true ∧ hrB a1 = false) from .inr ⟨hl, hh⟩)
      clear hl hh
      go_enter Try.func4, Try.ntmps4
      have hB0 := Below.refl w.heap.size w
      go_wp2_with fail
      refine (sLn_f _ _ _ HN.out).mono ?_; rintro e' w1 ⟨rfl, hw1⟩
      have hB1 := bel_next hB0 hw1
      have hS2 := blk_new w1 (.cells #[.int .i64 0, .int .i64 0] 24)
      have hB2 := hB1.alloc hB1.size (.cells #[.int .i64 0, .int .i64 0] 24)
      go_wp2_with fail
      refine (iLn_f _ _ _ HN.out).mono ?_; rintro e' w3 ⟨rfl, hw3⟩
      have hS3 := blk_next hS2 hw3
      have hB3 := bel_next hB2 hw3
      have hI4 := blk_new w3 (.cells #[.int .i64 0, .int .i64 0] 24)
      have hS4 := blk_old hS3 (.cells #[.int .i64 0, .int .i64 0] 24)
      have hB4 := hB3.alloc hB3.size (.cells #[.int .i64 0, .int .i64 0] 24)
      obtain ⟨cS4_0, cS4_1, fS4_0, fS4_1, zS4⟩ := blk2 hS4
      obtain ⟨cI4_0, cI4_1, fI4_0, fI4_1, zI4⟩ := blk2 hI4
      go_wp2_with fail
      refine (eqWay_same _ _ _).mono ?_; rintro e' w5 ⟨rfl, hw5⟩
      have hS5 := blk_next hS4 hw5
      have hI5 := blk_next hI4 hw5
      have hB5 := bel_next hB4 hw5
      go_wp2
      go_ret
      exact ⟨rfl, by first | exact hB5 | exact hB5.drew⟩
    · have HL := Lib.hid hl
      clear hl
      have HH := Lib.hid hh
      clear hh
      go_enter Try.func4, Try.ntmps4
      have hB0 := Below.refl w.heap.size w
      go_wp2_with fail
      refine (sLn_t _ _ _ HL.out HH.out).mono ?_; rintro e' w1 ⟨rfl, hw1⟩
      have hB1 := bel_next hB0 hw1
      have hS2 := blk_new w1 (.cells #[.int .i64 (lnE a0 a1), .int .i64 (lnN a1)] 24)
      have hB2 := hB1.alloc hB1.size (.cells #[.int .i64 (lnE a0 a1), .int .i64 (lnN a1)] 24)
      go_wp2_with fail
      refine (iLn_t _ _ _ HL.out HH.out).mono ?_; rintro e' w3 ⟨rfl, hw3⟩
      have hS3 := blk_next hS2 hw3
      have hB3 := bel_next hB2 hw3
      have hI4 := blk_new w3 (.cells #[.int .i64 (lnE a0 a1), .int .i64 (lnN a1)] 24)
      have hS4 := blk_old hS3 (.cells #[.int .i64 (lnE a0 a1), .int .i64 (lnN a1)] 24)
      have hB4 := hB3.alloc hB3.size (.cells #[.int .i64 (lnE a0 a1), .int .i64 (lnN a1)] 24)
      obtain ⟨cS4_0, cS4_1, fS4_0, fS4_1, zS4⟩ := blk2 hS4
      obtain ⟨cI4_0, cI4_1, fI4_0, fI4_1, zI4⟩ := blk2 hI4
      go_wp2_with fail
      refine (eqWay_same _ _ _).mono ?_; rintro e' w5 ⟨rfl, hw5⟩
      have hS5 := blk_next hS4 hw5
      have hI5 := blk_next hI4 hw5
      have hB5 := bel_next hB4 hw5
      go_wp2
      go_ret
      exact ⟨rfl, by first | exact hB5 | exact hB5.drew⟩

set_option maxRecDepth 100000 in
theorem lifted (os : Os) (started : os.Started) (H : Type) (enc : TypeId × Value → H) :
    ReturnsInHanded {} Try.checked os 4 .any (Rows.fnExactLineOfSpec.pre6 enc Try.prog Try.f4 Rows.fnExactLineOfRow.domain false) (Rows.fnExactLineOfSpec.post enc Try.prog Try.f4 false true false false) := by
  refine returnsInHanded_of_change (C := Try.checked) own started (by kernel_rfl) Try.func4
    (ChangeSpec.witness6 (enc := enc) (C := Try.checked) false ⟨#[], #[.int .i64 0, .int .i64 0], []⟩ 8 (by kernel_rfl) (by kernel_rfl) (by kernel_rfl) (by kernel_rfl)) ?_
  intro W base args ds gs before hval0 hW hcnd _
  have hval : ∀ (j : Nat) t v, Try.f4.params[j]? = some t → args[j]? = some v → Value.okWide Try.prog W .any base t v := hval0
  have hW' := hW
  obtain ⟨p, q, hA0, hV, rfl, hfz, hnd⟩ := hW
  have hA : DataW.TrodAll enc Try.prog W 0 (fun _ => true) true Try.f4.params.toList args.toList ds p := hA0
  rw [Try.params4] at hA hval
  obtain ⟨v0, vs0, d0, ds0, p0, q0, hargs, rfl, rfl, h0, r0⟩ := trodAll_cons hA
  obtain ⟨v1, vs1, d1, ds1, p1, q1, rfl, rfl, rfl, h1, r1⟩ := trodAll_cons r0
  obtain ⟨rfl, rfl, rfl⟩ := trodAll_nil r1
  obtain rfl : args = #[v0, v1] := by cases args; simp_all
  obtain ⟨rfl, rfl⟩ := trodVars_none hV
  have k0 := h0
  have lt0 : ∀ x ∈ p0, x.block < W.heap.size := by obtain ⟨m, hm⟩ := k0; exact DataW.trod_lt m _ _ _ hm
  have k1 := h1
  have lt1 : ∀ x ∈ p1, x.block < W.heap.size := by obtain ⟨m, hm⟩ := k1; exact DataW.trod_lt m _ _ _ hm
  obtain ⟨a0, rfl, rfl, rfl, w0⟩ := open_int Try.underlying3 (hval 0 3 v0 rfl rfl) h0
  obtain ⟨a1, rfl, rfl, rfl, w1⟩ := open_int Try.underlying3 (hval 1 3 v1 rfl rfl) h1
  clear hA0 hval0
  refine (walk a0 w0 a1 w1 W).mono fun e W' ⟨he, bel⟩ => ?_
  subst he
  exact ⟨_, rfl, _, _, _, [], _, [], hW', trodAll_mk1 (shut_bool Try.underlying4 _), (trodAll_cons_mk (Below.trod laidOut (by kernel_rfl) (of_decide_eq_true (by kernel_rfl)) k0 bel lt0) (trodAll_cons_mk (Below.trod laidOut (by kernel_rfl) (of_decide_eq_true (by kernel_rfl)) k1 bel lt1) trodAll_mk0)), rfl, bel.frame _, fun h => by cases h⟩

theorem over : Rows.fnExactLineOfRow.holds Try.pinned (OpenSpec.ofChange Rows.fnExactLineOfSpec) :=
  OpenClaim.holds_of_wide 4 Try.f4 rfl rfl rfl rfl rfl rfl rfl ⟨rfl, rfl, rfl, rfl, rfl⟩ rfl rfl rfl rfl rfl (by kernel_rfl) Try.func4 (by kernel_rfl)
    (of_decide_eq_true (by kernel_rfl)) (by unfold Func.isWrapper; first | (rw [if_pos (by decide +kernel)]; kernel_rfl) | (rw [if_neg (by decide +kernel)]; exact ⟨rfl, rfl⟩))
    (fun os started H enc _ => lifted os started H enc)

/-- The statement. -/
theorem proved : Rows.FnExactLineOfSaid :=
  over
#print axioms proved
end Go.Proofs.Ytgbelpkhfaajoaa.fnExactLineOf
