/- FnExactOldValid: whatever the input, the law returns true, and its arguments read as they did. No conditions beyond those of the statement's row. -/
import Derived.Test.YtcaemfnnkfbmgaaCg
namespace Go.Proofs.Ytcaemfnnkfbmgaa.fnExactOldValid
open Go.Proofs.Ytcaemfnnkfbmgaa
open Go.ChangeShapes Go.WideShapes Go.ChangeAt Go.RowKit Go.Joins
set_option linter.unusedVariables false
set_option linter.unusedSimpArgs false

theorem own : ownKnob Try.prog.godebug = none := by kernel_rfl
theorem laidOut : laidOutB Try.prog = true := by kernel_rfl
theorem cells0 : Try.prog.cellsOf 27 = 3 := by kernel_rfl
theorem walk (a0_0 : Int) (w0_0 : (Lit.int .i64 a0_0).wf = true) (a0_1 : Int) (w0_1 : (Lit.int .i64 a0_1).wf = true) (a0_2 : Int) (w0_2 : (Lit.int .i64 a0_2).wf = true) (w : World) :
    Calls Try.prog 15 #[.agg #[.int .i64 a0_0, .int .i64 a0_1, .int .i64 a0_2]] w fun e w' => e = .returned (.bool true) ∧ Below w.heap.size w w' := by
  cases h : oval a0_0 a0_1 a0_2
  all_goals
    go_enter Try.func15, Try.ntmps15
    go_wp2_with fail
    refine (toDate_any _ _ _ _).mono ?_; rintro e w1 ⟨rfl, hw1⟩
    obtain ⟨hH1, hB1⟩ := ownb hw1
    obtain ⟨c1_0, c1_1, c1_2, f1_0, f1_1, f1_2, hz1⟩ := blk3 hH1
    go_wp2_with fail
    refine (sOV_any _ _ _ _).mono ?_; rintro e w2 ⟨rfl, hw2⟩
    have hH2 := blk_next hH1 hw2
    have hB2 := bel_next hB1 hw2
    obtain ⟨c2_0, c2_1, c2_2, f2_0, f2_1, f2_2, hz2⟩ := blk3 hH2
    go_wp2_with fail
    refine (toDate_any _ _ _ _).mono ?_; rintro e w3 ⟨rfl, hw3⟩
    have hH3 := blk_next hH2 hw3
    have hB3 := bel_next hB2 hw3
    obtain ⟨c3_0, c3_1, c3_2, f3_0, f3_1, f3_2, hz3⟩ := blk3 hH3
    go_wp2_with fail
    refine (iOV_any _ _ _ _).mono ?_; rintro e w4 ⟨rfl, hw4⟩
    have hH4 := blk_next hH3 hw4
    have hB4 := bel_next hB3 hw4
    obtain ⟨c4_0, c4_1, c4_2, f4_0, f4_1, f4_2, hz4⟩ := blk3 hH4
    go_wp2
    go_ret
    exact ⟨rfl, hB4⟩

set_option maxRecDepth 100000 in
theorem lifted (os : Os) (started : os.Started) (H : Type) (enc : TypeId × Value → H) :
    ReturnsInHanded {} Try.checked os 15 .any (Rows.fnExactOldValidSpec.pre6 enc Try.prog Try.f15 Rows.fnExactOldValidRow.domain false) (Rows.fnExactOldValidSpec.post enc Try.prog Try.f15 false true false false) := by
  refine returnsInHanded_of_change (C := Try.checked) own started (by kernel_rfl) Try.func15
    (ChangeSpec.witness6 (enc := enc) (C := Try.checked) false ⟨#[], #[.agg #[.int .i64 0, .int .i64 0, .int .i64 0]], []⟩ 8 (by kernel_rfl) (by kernel_rfl) (by kernel_rfl) (by kernel_rfl)) ?_
  intro W base args ds gs before hval0 hW hcnd _
  have hval : ∀ (j : Nat) t v, Try.f15.params[j]? = some t → args[j]? = some v → Value.okWide Try.prog W .any base t v := hval0
  have hW' := hW
  obtain ⟨p, q, hA0, hV, rfl, hfz, hnd⟩ := hW
  have hA : DataW.TrodAll enc Try.prog W 0 (fun _ => true) true Try.f15.params.toList args.toList ds p := hA0
  rw [Try.params15] at hA hval
  obtain ⟨v0, vs0, d0, ds0, p0, q0, hargs, rfl, rfl, h0, r0⟩ := trodAll_cons hA
  obtain ⟨rfl, rfl, rfl⟩ := trodAll_nil r0
  obtain rfl : args = #[v0] := by cases args; simp_all
  obtain ⟨rfl, rfl⟩ := trodVars_none hV
  have k0 := h0
  have lt0 : ∀ x ∈ p0, x.block < W.heap.size := by obtain ⟨m, hm⟩ := k0; exact DataW.trod_lt m _ _ _ hm
  obtain ⟨c0_0, c0_1, c0_2, y0_0, y0_1, y0_2, m0, rfl, rfl, rfl, hy0_0, hy0_1, hy0_2⟩ := open_agg3 Try.underlying27 (by kernel_rfl) cells0 (hval 0 27 v0 rfl rfl) h0
  obtain ⟨a0_0, e0_0, rfl, w0_0⟩ := DataW.trod_int Try.underlying3 hy0_0
  simp at e0_0
  subst e0_0
  obtain ⟨a0_1, e0_1, rfl, w0_1⟩ := DataW.trod_int Try.underlying3 hy0_1
  simp at e0_1
  subst e0_1
  obtain ⟨a0_2, e0_2, rfl, w0_2⟩ := DataW.trod_int Try.underlying3 hy0_2
  simp at e0_2
  subst e0_2
  clear hA0 hval0
  refine (walk a0_0 w0_0 a0_1 w0_1 a0_2 w0_2 W).mono fun e W' ⟨he, bel⟩ => ?_
  subst he
  exact ⟨_, rfl, _, _, _, [], _, [], hW', trodAll_mk1 (shut_bool Try.underlying4 _), (trodAll_cons_mk (Below.trod laidOut (by kernel_rfl) (of_decide_eq_true (by kernel_rfl)) k0 bel lt0) trodAll_mk0), rfl, bel.frame _, fun h => by cases h⟩

theorem over : Rows.fnExactOldValidRow.holds Try.pinned (OpenSpec.ofChange Rows.fnExactOldValidSpec) :=
  OpenClaim.holds_of_wide 15 Try.f15 rfl rfl rfl rfl rfl rfl rfl ⟨rfl, rfl, rfl, rfl, rfl⟩ rfl rfl rfl rfl rfl (by kernel_rfl) Try.func15 (by kernel_rfl)
    (of_decide_eq_true (by kernel_rfl)) (by unfold Func.isWrapper; first | (rw [if_pos (by decide +kernel)]; kernel_rfl) | (rw [if_neg (by decide +kernel)]; exact ⟨rfl, rfl⟩))
    (fun os started H enc _ => lifted os started H enc)

/-- The statement. -/
theorem proved : Rows.FnExactOldValidSaid :=
  over
#print axioms proved
end Go.Proofs.Ytcaemfnnkfbmgaa.fnExactOldValid
