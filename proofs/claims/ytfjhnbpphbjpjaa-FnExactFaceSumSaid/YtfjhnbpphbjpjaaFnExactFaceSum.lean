/- FnExactFaceSum: whatever the input, the law returns true, and its arguments read as they did. No conditions beyond those of the statement's row. -/
import Derived.Test.YtfjhnbpphbjpjaaZg
namespace Go.Proofs.Ytfjhnbpphbjpjaa.fnExactFaceSum
open Go.Proofs.Ytfjhnbpphbjpjaa
open Go.ChangeShapes Go.WideShapes Go.ChangeAt Go.RowKit Go.Joins
set_option linter.unusedVariables false
set_option linter.unusedSimpArgs false
set_option linter.unnecessarySimpa false

theorem own : ownKnob Try.prog.godebug = none := by kernel_rfl
theorem laidOut : laidOutB Try.prog = true := by kernel_rfl

set_option maxRecDepth 100000 in
set_option maxHeartbeats 4000000 in
theorem walk (w : World) (a0_0 : Int) (a0_1 : Int) (a0_2 : Int) (q0 : Wf a0_0 ∧ Wf a0_1 ∧ Wf a0_2) (A1 : Option Addr) (cap1 : Nat) (xs1 : List VRay) (w1 : SRow encRay w A1 xs1) (l1 : xs1.length ≤ maxLen) (q1 : ∀ v ∈ xs1, Wf v.1 ∧ Wf v.2.1 ∧ Wf v.2.2) :
    Calls Try.prog 5 #[.agg #[.int .i64 a0_0, .int .i64 a0_1, .int .i64 a0_2], .slice A1 xs1.length cap1] w fun e w' => e = .returned (.bool true) ∧ Below w.heap.size w w' := by
  obtain ⟨v, hv⟩ : ∃ v, fsI a0_0 a0_1 a0_2 xs1 = v := ⟨_, rfl⟩
  have HV := Lib.hid hv
  clear hv q0
  have hW1 := w1
  clear q1
  have l1' := l1
  unfold maxLen at l1'
  go_enter Try.func5, Try.ntmps5
  go_wp2_with fail
  refine (szRayS_any A1 _ cap1 1048576 _ (by omega) (by omega) l1).mono ?_; rintro e' w' ⟨r1, rfl, hL, rfl⟩
  rcases hL with rfl | ⟨s0_1, s1_1, hq⟩
  · go_wp2
    go_ret
    exact ⟨rfl, bel1 w (.cells #[.int .i64 a0_0, .int .i64 a0_1, .int .i64 a0_2] 23)⟩
  · have hr1 : ¬ r1 < 0 := by omega
    have hn1 : xs1.length ≤ 1048576 := by omega
    clear hq
    have hB0 := bel1 w (.cells #[.int .i64 a0_0, .int .i64 a0_1, .int .i64 a0_2] 23)
    have hA1_0 := hW1.next hB0
    have hP0 := blk_new w (.cells #[.int .i64 a0_0, .int .i64 a0_1, .int .i64 a0_2] 23)
    obtain ⟨cP0_0, cP0_1, cP0_2, fP0_0, fP0_1, fP0_2, zP0⟩ := blk3 hP0
    go_wp2_with fail
    refine (toFace_any _ _ _ _).mono ?_; rintro e' w1 ⟨rfl, hw1⟩
    have hP1 := blk_next hP0 hw1
    have hA1_1 := hA1_0.next hw1
    have hB1 := bel_next hB0 hw1
    go_wp2_with fail
    refine (toRayS_any A1 cap1 xs1 _ hA1_1 (by omega)).mono ?_; rintro e' w2 ⟨gC, rfl, hgC, hC2, hw2⟩
    have hP2 := blk_next hP1 hw2
    have hA1_2 := hA1_1.next hw2
    have hB2 := bel_next hB1 hw2
    go_wp2_with fail
    refine (sFS_is _ _ xs1 _ rfl hC2.row (by omega) HV.out).mono ?_; rintro e' w3 ⟨rfl, hw3⟩
    have hP3 := blk_next hP2 hw3
    have hA1_3 := hA1_2.next hw3
    have hC3 := hC2.next hw3
    have hB3 := bel_next hB2 hw3
    go_wp2_with fail
    refine (toRayS_any A1 cap1 xs1 _ hA1_3 (by omega)).mono ?_; rintro e' w4 ⟨gD, rfl, hgD, hD4, hw4⟩
    have hP4 := blk_next hP3 hw4
    have hA1_4 := hA1_3.next hw4
    have hB4 := bel_next hB3 hw4
    obtain ⟨cP4_0, cP4_1, cP4_2, fP4_0, fP4_1, fP4_2, zP4⟩ := blk3 hP4
    go_wp2_with fail
    refine (toFace_any _ _ _ _).mono ?_; rintro e' w5 ⟨rfl, hw5⟩
    have hP5 := blk_next hP4 hw5
    have hA1_5 := hA1_4.next hw5
    have hD5 := hD4.next hw5
    have hB5 := bel_next hB4 hw5
    go_wp2_with fail
    refine (iFS_is _ _ xs1 _ rfl hD5.row (by omega) HV.out).mono ?_; rintro e' w6 ⟨rfl, hw6⟩
    have hP6 := blk_next hP5 hw6
    have hA1_6 := hA1_5.next hw6
    have hD6 := hD5.next hw6
    have hB6 := bel_next hB5 hw6
    go_wp2_with fail
    refine (toRayS_any A1 cap1 xs1 _ hA1_6 (by omega)).mono ?_; rintro e' w7 ⟨gE, rfl, hgE, hE7, hw7⟩
    have hP7 := blk_next hP6 hw7
    have hA1_7 := hA1_6.next hw7
    have hD7 := hD6.next hw7
    have hB7 := bel_next hB6 hw7
    go_wp2_with fail
    refine (eqRayS_same _ _ _ _ xs1 rfl hD7.row hE7.row (by omega)).mono ?_; rintro e' w8 ⟨rfl, hw8⟩
    have hP8 := blk_next hP7 hw8
    have hA1_8 := hA1_7.next hw8
    have hD8 := hD7.next hw8
    have hE8 := hE7.next hw8
    have hB8 := bel_next hB7 hw8
    go_wp2
    go_ret
    exact ⟨rfl, by first | exact hB8 | exact hB8.drew⟩

set_option maxRecDepth 100000 in
theorem lifted (os : Os) (started : os.Started) (H : Type) (enc : TypeId × Value → H) :
    ReturnsInHanded {} Try.checked os 5 .any (Rows.fnExactFaceSumSpec.pre6 enc Try.prog Try.f5 Rows.fnExactFaceSumRow.domain false) (Rows.fnExactFaceSumSpec.post enc Try.prog Try.f5 false true false false) := by
  refine returnsInHanded_of_change (C := Try.checked) own started (by kernel_rfl) Try.func5
    (ChangeSpec.witness6 (enc := enc) (C := Try.checked) false ⟨#[], #[.agg #[.int .i64 0, .int .i64 0, .int .i64 0], .slice none 0 0], []⟩ 8 (by kernel_rfl) (by kernel_rfl) (by kernel_rfl) (by kernel_rfl)) ?_
  intro W base args ds gs before hval0 hW hcnd _
  have hval : ∀ (j : Nat) t v, Try.f5.params[j]? = some t → args[j]? = some v → Value.okWide Try.prog W .any base t v := hval0
  have hW' := hW
  obtain ⟨p, q, hA0, hV, rfl, hfz, hnd⟩ := hW
  have hA : DataW.TrodAll enc Try.prog W 0 (fun _ => true) true Try.f5.params.toList args.toList ds p := hA0
  rw [Try.params5] at hA hval
  obtain ⟨v0, vs0, d0, ds0, p0, q0, hargs, rfl, rfl, h0, r0⟩ := trodAll_cons hA
  obtain ⟨v1, vs1, d1, ds1, p1, q1, rfl, rfl, rfl, h1, r1⟩ := trodAll_cons r0
  obtain ⟨rfl, rfl, rfl⟩ := trodAll_nil r1
  obtain rfl : args = #[v0, v1] := by cases args; simp_all
  obtain ⟨rfl, rfl⟩ := trodVars_none hV
  have k0 := h0
  have lt0 : ∀ x ∈ p0, x.block < W.heap.size := by obtain ⟨m, hm⟩ := k0; exact DataW.trod_lt m _ _ _ hm
  have k1 := h1
  have lt1 : ∀ x ∈ p1, x.block < W.heap.size := by obtain ⟨m, hm⟩ := k1; exact DataW.trod_lt m _ _ _ hm
  obtain ⟨⟨a0_0, a0_1, a0_2⟩, rfl, q0⟩ := openFace (hval 0 23 v0 rfl rfl) h0
  obtain ⟨A1, len1, cap1, rfl⟩ := okWide_slice Try.underlying33 (hval 1 33 v1 rfl rfl)
  obtain ⟨xs1, w1, l1, q1, hlen1⟩ : ∃ xs, SRow encRay W A1 xs ∧ xs.length ≤ maxLen ∧ (∀ v ∈ xs, Wf v.1 ∧ Wf v.2.1 ∧ Wf v.2.2) ∧ xs.length = len1 := by
    obtain ⟨fuel, hf⟩ := h1
    obtain ⟨A, cap, xs, hcs, hl, hr, hq⟩ := openRayS hf
    simp [Value.cells] at hcs
    obtain ⟨rfl, hn, rfl⟩ := hcs
    exact ⟨xs, hr, hl, hq, hn.symm⟩
  subst hlen1
  clear hA0 hval0
  refine (walk W a0_0 a0_1 a0_2 q0 A1 cap1 xs1 w1 l1 q1).mono fun e W' ⟨he, bel⟩ => ?_
  subst he
  exact ⟨_, rfl, _, _, _, [], _, [], hW', trodAll_mk1 (shut_bool Try.underlying4 _), (trodAll_cons_mk (Below.trod laidOut (by kernel_rfl) (of_decide_eq_true (by kernel_rfl)) k0 bel lt0) (trodAll_cons_mk (Below.trod laidOut (by kernel_rfl) (of_decide_eq_true (by kernel_rfl)) k1 bel lt1) trodAll_mk0)), rfl, bel.frame _, fun h => by cases h⟩

theorem over : Rows.fnExactFaceSumRow.holds Try.pinned (OpenSpec.ofChange Rows.fnExactFaceSumSpec) :=
  OpenClaim.holds_of_wide 5 Try.f5 rfl rfl rfl rfl rfl rfl rfl ⟨rfl, rfl, rfl, rfl, rfl⟩ rfl rfl rfl rfl rfl (by kernel_rfl) Try.func5 (by kernel_rfl)
    (of_decide_eq_true (by kernel_rfl)) (by unfold Func.isWrapper; first | (rw [if_pos (by decide +kernel)]; kernel_rfl) | (rw [if_neg (by decide +kernel)]; exact ⟨rfl, rfl⟩))
    (fun os started H enc _ => lifted os started H enc)

/-- The statement. -/
theorem proved : Rows.FnExactFaceSumSaid :=
  over
#print axioms proved
end Go.Proofs.Ytfjhnbpphbjpjaa.fnExactFaceSum
