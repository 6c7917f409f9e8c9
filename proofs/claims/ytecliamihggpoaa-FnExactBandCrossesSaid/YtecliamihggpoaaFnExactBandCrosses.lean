/- FnExactBandCrosses: whatever the input, the law returns true, and its arguments read as they did. No conditions beyond those of the statement's row. -/
import Derived.Test.YtecliamihggpoaaBr
import Derived.Test.YtecliamihggpoaaGBand
namespace Go.Proofs.Ytecliamihggpoaa.fnExactBandCrosses
open Go.Proofs.Ytecliamihggpoaa
open Go.ChangeShapes Go.WideShapes Go.ChangeAt Go.RowKit Go.Joins
set_option linter.unusedVariables false
set_option linter.unusedSimpArgs false
set_option linter.unnecessarySimpa false

theorem own : ownKnob Try.prog.godebug = none := by kernel_rfl
theorem laidOut : laidOutB Try.prog = true := by kernel_rfl

set_option maxRecDepth 100000 in
set_option maxHeartbeats 4000000 in
theorem walk (w : World) (a0 : Bool) (a1_0 : Int) (a1_1 : Int) (q1 : Wf a1_0 ∧ Wf a1_1) (A2 : Option Addr) (cap2 : Nat) (xs2 : List Int) (w2 : SRow encNum w A2 xs2) (l2 : xs2.length ≤ maxLen) (q2 : ∀ v ∈ xs2, Wf v) :
    Calls Try.prog 8 #[.bool a0, .agg #[.int .i64 a1_0, .int .i64 a1_1], .slice A2 xs2.length cap2] w fun e w' => e = .returned (.bool true) ∧ Below w.heap.size w w' := by
  obtain ⟨v, hv⟩ : ∃ v, bcI a0 a1_0 a1_1 xs2 = v := ⟨_, rfl⟩
  have HV := Lib.hid hv
  clear hv q1
  have hW2 := w2
  clear q2
  have l2' := l2
  unfold maxLen at l2'
  by_cases hl : xs2.length ≤ 1048576
  · have hi2 : ¬ (xs2.length : Int) > 1048576 := by omega
    have hn2 : xs2.length ≤ 1048576 := hl
    clear hl
    go_enter Try.func8, Try.ntmps8
    have hB0 := bel1 w (.cells #[.int .i64 a1_0, .int .i64 a1_1] 23)
    have hA2_0 := hW2.next hB0
    have hP0 := blk_new w (.cells #[.int .i64 a1_0, .int .i64 a1_1] 23)
    obtain ⟨cP0_0, cP0_1, fP0_0, fP0_1, zP0⟩ := blk2 hP0
    go_wp2_with fail
    refine (toBand_any _ _ _).mono ?_; rintro e' w1 ⟨rfl, hw1⟩
    have hP1 := blk_next hP0 hw1
    have hA2_1 := hA2_0.next hw1
    have hB1 := bel_next hB0 hw1
    go_wp2_with fail
    refine (toNumS_any A2 cap2 xs2 _ hA2_1 (by omega)).mono ?_; rintro e' w2 ⟨gC2_, rfl, hgC2_, hC2_2, hw2⟩
    have hP2 := blk_next hP1 hw2
    have hA2_2 := hA2_1.next hw2
    have hB2 := bel_next hB1 hw2
    obtain ⟨cP2_0, cP2_1, fP2_0, fP2_1, zP2⟩ := blk2 hP2
    go_wp2_with fail
    refine (sBc_is _ _ xs2 _ _ rfl hC2_2.row (by omega) HV.out).mono ?_; rintro e' w3 ⟨rfl, hw3⟩
    have hP3 := blk_next hP2 hw3
    have hA2_3 := hA2_2.next hw3
    have hC2_3 := hC2_2.next hw3
    have hB3 := bel_next hB2 hw3
    go_wp2_with fail
    refine (toNumS_any A2 cap2 xs2 _ hA2_3 (by omega)).mono ?_; rintro e' w4 ⟨gD2_, rfl, hgD2_, hD2_4, hw4⟩
    have hP4 := blk_next hP3 hw4
    have hA2_4 := hA2_3.next hw4
    have hC2_4 := hC2_3.next hw4
    have hB4 := bel_next hB3 hw4
    obtain ⟨cP4_0, cP4_1, fP4_0, fP4_1, zP4⟩ := blk2 hP4
    go_wp2_with fail
    refine (toBand_any _ _ _).mono ?_; rintro e' w5 ⟨rfl, hw5⟩
    have hP5 := blk_next hP4 hw5
    have hA2_5 := hA2_4.next hw5
    have hC2_5 := hC2_4.next hw5
    have hD2_5 := hD2_4.next hw5
    have hB5 := bel_next hB4 hw5
    obtain ⟨cP5_0, cP5_1, fP5_0, fP5_1, zP5⟩ := blk2 hP5
    go_wp2_with fail
    refine (iBc_is _ _ xs2 _ _ rfl hD2_5.row (by omega) HV.out).mono ?_; rintro e' w6 ⟨rfl, hw6⟩
    have hP6 := blk_next hP5 hw6
    have hA2_6 := hA2_5.next hw6
    have hC2_6 := hC2_5.next hw6
    have hD2_6 := hD2_5.next hw6
    have hB6 := bel_next hB5 hw6
    go_wp2_with fail
    refine (toNumS_any A2 cap2 xs2 _ hA2_6 (by omega)).mono ?_; rintro e' w7 ⟨gE2_, rfl, hgE2_, hE2_7, hw7⟩
    have hP7 := blk_next hP6 hw7
    have hA2_7 := hA2_6.next hw7
    have hC2_7 := hC2_6.next hw7
    have hD2_7 := hD2_6.next hw7
    have hB7 := bel_next hB6 hw7
    go_wp2_with fail
    refine (eqNumS_same _ _ _ _ xs2 rfl hD2_7.row hE2_7.row (by omega)).mono ?_; rintro e' w8 ⟨rfl, hw8⟩
    have hP8 := blk_next hP7 hw8
    have hA2_8 := hA2_7.next hw8
    have hC2_8 := hC2_7.next hw8
    have hD2_8 := hD2_7.next hw8
    have hE2_8 := hE2_7.next hw8
    have hB8 := bel_next hB7 hw8
    go_wp2
    go_ret
    exact ⟨rfl, by first | exact hB8 | exact hB8.drew⟩
  · have hi2 : (xs2.length : Int) > 1048576 := by omega
    clear hl
    go_enter Try.func8, Try.ntmps8
    go_wp2
    go_ret
    exact ⟨rfl, bel1 w (.cells #[.int .i64 a1_0, .int .i64 a1_1] 23)⟩

set_option maxRecDepth 100000 in
theorem lifted (os : Os) (started : os.Started) (H : Type) (enc : TypeId × Value → H) :
    ReturnsInHanded {} Try.checked os 8 .any (Rows.fnExactBandCrossesSpec.pre6 enc Try.prog Try.f8 Rows.fnExactBandCrossesRow.domain false) (Rows.fnExactBandCrossesSpec.post enc Try.prog Try.f8 false true false false) := by
  refine returnsInHanded_of_change (C := Try.checked) own started (by kernel_rfl) Try.func8
    (ChangeSpec.witness6 (enc := enc) (C := Try.checked) false ⟨#[], #[.bool false, .agg #[.int .i64 0, .int .i64 0], .slice none 0 0], []⟩ 8 (by kernel_rfl) (by kernel_rfl) (by kernel_rfl) (by kernel_rfl)) ?_
  intro W base args ds gs before hval0 hW hcnd _
  have hval : ∀ (j : Nat) t v, Try.f8.params[j]? = some t → args[j]? = some v → Value.okWide Try.prog W .any base t v := hval0
  have hW' := hW
  obtain ⟨p, q, hA0, hV, rfl, hfz, hnd⟩ := hW
  have hA : DataW.TrodAll enc Try.prog W 0 (fun _ => true) true Try.f8.params.toList args.toList ds p := hA0
  rw [Try.params8] at hA hval
  obtain ⟨v0, vs0, d0, ds0, p0, q0, hargs, rfl, rfl, h0, r0⟩ := trodAll_cons hA
  obtain ⟨v1, vs1, d1, ds1, p1, q1, rfl, rfl, rfl, h1, r1⟩ := trodAll_cons r0
  obtain ⟨v2, vs2, d2, ds2, p2, q2, rfl, rfl, rfl, h2, r2⟩ := trodAll_cons r1
  obtain ⟨rfl, rfl, rfl⟩ := trodAll_nil r2
  obtain rfl : args = #[v0, v1, v2] := by cases args; simp_all
  obtain ⟨rfl, rfl⟩ := trodVars_none hV
  have k0 := h0
  have lt0 : ∀ x ∈ p0, x.block < W.heap.size := by obtain ⟨m, hm⟩ := k0; exact DataW.trod_lt m _ _ _ hm
  have k1 := h1
  have lt1 : ∀ x ∈ p1, x.block < W.heap.size := by obtain ⟨m, hm⟩ := k1; exact DataW.trod_lt m _ _ _ hm
  have k2 := h2
  have lt2 : ∀ x ∈ p2, x.block < W.heap.size := by obtain ⟨m, hm⟩ := k2; exact DataW.trod_lt m _ _ _ hm
  obtain ⟨a0, rfl, rfl, rfl⟩ := open_bool Try.underlying4 (hval 0 4 v0 rfl rfl) h0
  obtain ⟨⟨a1_0, a1_1⟩, rfl, q1⟩ := openBand (hval 1 23 v1 rfl rfl) h1
  obtain ⟨A2, len2, cap2, rfl⟩ := okWide_slice Try.underlying28 (hval 2 28 v2 rfl rfl)
  obtain ⟨xs2, w2, l2, q2, hlen2⟩ : ∃ xs, SRow encNum W A2 xs ∧ xs.length ≤ maxLen ∧ (∀ v ∈ xs, Wf v) ∧ xs.length = len2 := by
    obtain ⟨fuel, hf⟩ := h2
    obtain ⟨A, cap, xs, hcs, hl, hr, hq⟩ := openNumS hf
    simp [Value.cells] at hcs
    obtain ⟨rfl, hn, rfl⟩ := hcs
    exact ⟨xs, hr, hl, hq, hn.symm⟩
  subst hlen2
  clear hA0 hval0
  refine (walk W a0 a1_0 a1_1 q1 A2 cap2 xs2 w2 l2 q2).mono fun e W' ⟨he, bel⟩ => ?_
  subst he
  exact ⟨_, rfl, _, _, _, [], _, [], hW', trodAll_mk1 (shut_bool Try.underlying4 _), (trodAll_cons_mk (Below.trod laidOut (by kernel_rfl) (of_decide_eq_true (by kernel_rfl)) k0 bel lt0) (trodAll_cons_mk (Below.trod laidOut (by kernel_rfl) (of_decide_eq_true (by kernel_rfl)) k1 bel lt1) (trodAll_cons_mk (Below.trod laidOut (by kernel_rfl) (of_decide_eq_true (by kernel_rfl)) k2 bel lt2) trodAll_mk0))), rfl, bel.frame _, fun h => by cases h⟩

theorem over : Rows.fnExactBandCrossesRow.holds Try.pinned (OpenSpec.ofChange Rows.fnExactBandCrossesSpec) :=
  OpenClaim.holds_of_wide 8 Try.f8 rfl rfl rfl rfl rfl rfl rfl ⟨rfl, rfl, rfl, rfl, rfl⟩ rfl rfl rfl rfl rfl (by kernel_rfl) Try.func8 (by kernel_rfl)
    (of_decide_eq_true (by kernel_rfl)) (by unfold Func.isWrapper; first | (rw [if_pos (by decide +kernel)]; kernel_rfl) | (rw [if_neg (by decide +kernel)]; exact ⟨rfl, rfl⟩))
    (fun os started H enc _ => lifted os started H enc)

/-- The statement. -/
theorem proved : Rows.FnExactBandCrossesSaid :=
  over
#print axioms proved
end Go.Proofs.Ytecliamihggpoaa.fnExactBandCrosses
