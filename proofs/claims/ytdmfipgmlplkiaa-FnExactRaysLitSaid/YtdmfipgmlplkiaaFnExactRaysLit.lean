/- FnExactRaysLit: whatever the input, the law returns true, and its arguments read as they did. No conditions beyond those of the statement's row. -/
import Derived.Test.YtdmfipgmlplkiaaVr
import Derived.Test.YtdmfipgmlplkiaaGPlace
namespace Go.Proofs.Ytdmfipgmlplkiaa.fnExactRaysLit
open Go.Proofs.Ytdmfipgmlplkiaa
open Go.ChangeShapes Go.WideShapes Go.ChangeAt Go.RowKit Go.Joins
set_option linter.unusedVariables false
set_option linter.unusedSimpArgs false
set_option linter.unnecessarySimpa false

theorem own : ownKnob Try.prog.godebug = none := by kernel_rfl
theorem laidOut : laidOutB Try.prog = true := by kernel_rfl

set_option maxRecDepth 100000 in
set_option maxHeartbeats 4000000 in
theorem walk (w : World) (a0_0 : Int) (a0_1 : Int) (q0 : Wf a0_0 ∧ Wf a0_1) (A1 : Option Addr) (cap1 : Nat) (xs1 : List VBlock) (w1 : SRow encBlock w A1 xs1) (l1 : xs1.length ≤ maxLen) (q1 : ∀ v ∈ xs1, Wf v.1 ∧ Wf v.2.1 ∧ Wf v.2.2.1 ∧ Wf v.2.2.2.1 ∧ Wf v.2.2.2.2) (A2 : Option Addr) (cap2 : Nat) (xs2 : List VRay) (w2 : SRow encRay w A2 xs2) (l2 : xs2.length ≤ maxLen) (q2 : ∀ v ∈ xs2, Wf v.1 ∧ Wf v.2.1 ∧ Wf v.2.2) :
    Calls Try.prog 6 #[.agg #[.int .i64 a0_0, .int .i64 a0_1], .slice A1 xs1.length cap1, .slice A2 xs2.length cap2] w fun e w' => e = .returned (.bool true) ∧ Below w.heap.size w w' := by
  obtain ⟨v, hv⟩ : ∃ v, rlV a0_0 a0_1 xs1 xs2 = v := ⟨_, rfl⟩
  have HV := Lib.hid hv
  clear hv q0 q1 q2
  have l1' := l1
  unfold maxLen at l1'
  have l2' := l2
  unfold maxLen at l2'
  go_enter Try.func6, Try.ntmps6
  go_wp2_with fail
  refine (szBlockS_any A1 _ cap1 1048576 _ (by omega) (by omega) l1).mono ?_; rintro e' w' ⟨r, rfl, hL, rfl⟩
  rcases hL with rfl | ⟨r0, r1, hn⟩
  · go_wp2
    go_ret
    exact ⟨rfl, bel1 _ _⟩
  · have hr : ¬ r < 0 := by omega
    have hn2 : xs1.length ≤ 1048576 := by omega
    clear hn
    go_wp2_with fail
    refine (szRayS_any A2 _ cap2 r _ (by omega) (by omega) l2).mono ?_; rintro e' w' ⟨r', rfl, hL, rfl⟩
    rcases hL with rfl | ⟨s0, s1, hn⟩
    · go_wp2
      go_ret
      exact ⟨rfl, bel1 _ _⟩
    · have hr' : ¬ r' < 0 := by omega
      have hn3 : xs2.length ≤ 1048576 := by omega
      clear hn
      have hB0 := bel1 w (.cells #[.int .i64 a0_0, .int .i64 a0_1] 30)
      have hP0 := blk_new w (.cells #[.int .i64 a0_0, .int .i64 a0_1] 30)
      have hA0 := w1.next hB0
      have hF0 := w2.next hB0
      obtain ⟨cP0_0, cP0_1, fP0_0, fP0_1, zP0⟩ := blk2 hP0
      go_wp2_with fail
      refine (toPlace_any _ _ _).mono ?_; rintro e' w1 ⟨rfl, hw1⟩
      have hP1 := blk_next hP0 hw1
      have hA1 := hA0.next hw1
      have hF1 := hF0.next hw1
      have hB1 := bel_next hB0 hw1
      go_wp2_with fail
      refine (toBlockS_any A1 cap1 xs1 _ hA1 (by omega)).mono ?_; rintro e' w2 ⟨gC, rfl, hgC, hC2, hw2⟩
      have hP2 := blk_next hP1 hw2
      have hA2 := hA1.next hw2
      have hF2 := hF1.next hw2
      have hB2 := bel_next hB1 hw2
      go_wp2_with fail
      refine (toRayS_any A2 cap2 xs2 _ hF2 (by omega)).mono ?_; rintro e' w3 ⟨gG, rfl, hgG, hG3, hw3⟩
      have hP3 := blk_next hP2 hw3
      have hA3 := hA2.next hw3
      have hF3 := hF2.next hw3
      have hC3 := hC2.next hw3
      have hB3 := bel_next hB2 hw3
      go_wp2_with fail
      refine (sRl_is _ _ _ _ xs1 xs2 _ _ _ rfl hC3.row (by omega) rfl hG3.row (by omega) HV.out).mono ?_; rintro e' w4 ⟨rfl, hw4⟩
      have hP4 := blk_next hP3 hw4
      have hA4 := hA3.next hw4
      have hF4 := hF3.next hw4
      have hC4 := hC3.next hw4
      have hG4 := hG3.next hw4
      have hB4 := bel_next hB3 hw4
      go_wp2_with fail
      refine (toBlockS_any A1 cap1 xs1 _ hA4 (by omega)).mono ?_; rintro e' w5 ⟨gD, rfl, hgD, hD5, hw5⟩
      have hP5 := blk_next hP4 hw5
      have hA5 := hA4.next hw5
      have hF5 := hF4.next hw5
      have hB5 := bel_next hB4 hw5
      go_wp2_with fail
      refine (toRayS_any A2 cap2 xs2 _ hF5 (by omega)).mono ?_; rintro e' w6 ⟨gH, rfl, hgH, hH6, hw6⟩
      have hP6 := blk_next hP5 hw6
      have hA6 := hA5.next hw6
      have hF6 := hF5.next hw6
      have hD6 := hD5.next hw6
      have hB6 := bel_next hB5 hw6
      obtain ⟨cP6_0, cP6_1, fP6_0, fP6_1, zP6⟩ := blk2 hP6
      go_wp2_with fail
      refine (toPlace_any _ _ _).mono ?_; rintro e' w7 ⟨rfl, hw7⟩
      have hP7 := blk_next hP6 hw7
      have hA7 := hA6.next hw7
      have hF7 := hF6.next hw7
      have hD7 := hD6.next hw7
      have hH7 := hH6.next hw7
      have hB7 := bel_next hB6 hw7
      go_wp2_with fail
      refine (iRl_is _ _ _ _ xs1 xs2 _ _ _ rfl hD7.row (by omega) rfl hH7.row (by omega) HV.out).mono ?_; rintro e' w8 ⟨rfl, hw8⟩
      have hP8 := blk_next hP7 hw8
      have hA8 := hA7.next hw8
      have hF8 := hF7.next hw8
      have hD8 := hD7.next hw8
      have hH8 := hH7.next hw8
      have hB8 := bel_next hB7 hw8
      go_wp2_with fail
      refine (toBlockS_any A1 cap1 xs1 _ hA8 (by omega)).mono ?_; rintro e' w9 ⟨gE, rfl, hgE, hE9, hw9⟩
      have hP9 := blk_next hP8 hw9
      have hA9 := hA8.next hw9
      have hF9 := hF8.next hw9
      have hD9 := hD8.next hw9
      have hH9 := hH8.next hw9
      have hB9 := bel_next hB8 hw9
      go_wp2_with fail
      refine (eqBlockS_same _ _ _ _ xs1 rfl hD9.row hE9.row (by omega)).mono ?_; rintro e' w10 ⟨rfl, hw10⟩
      have hP10 := blk_next hP9 hw10
      have hA10 := hA9.next hw10
      have hF10 := hF9.next hw10
      have hD10 := hD9.next hw10
      have hH10 := hH9.next hw10
      have hE10 := hE9.next hw10
      have hB10 := bel_next hB9 hw10
      go_wp2_with fail
      refine (toRayS_any A2 cap2 xs2 _ hF10 (by omega)).mono ?_; rintro e' w11 ⟨gJ, rfl, hgJ, hJ11, hw11⟩
      have hP11 := blk_next hP10 hw11
      have hA11 := hA10.next hw11
      have hF11 := hF10.next hw11
      have hD11 := hD10.next hw11
      have hH11 := hH10.next hw11
      have hE11 := hE10.next hw11
      have hB11 := bel_next hB10 hw11
      go_wp2_with fail
      refine (eqRayS_same _ _ _ _ xs2 rfl hH11.row hJ11.row (by omega)).mono ?_; rintro e' w12 ⟨rfl, hw12⟩
      have hP12 := blk_next hP11 hw12
      have hA12 := hA11.next hw12
      have hF12 := hF11.next hw12
      have hD12 := hD11.next hw12
      have hH12 := hH11.next hw12
      have hE12 := hE11.next hw12
      have hJ12 := hJ11.next hw12
      have hB12 := bel_next hB11 hw12
      go_wp2
      go_ret
      exact ⟨rfl, by first | exact hB12 | exact hB12.drew⟩

set_option maxRecDepth 100000 in
theorem lifted (os : Os) (started : os.Started) (H : Type) (enc : TypeId × Value → H) :
    ReturnsInHanded {} Try.checked os 6 .any (Rows.fnExactRaysLitSpec.pre6 enc Try.prog Try.f6 Rows.fnExactRaysLitRow.domain false) (Rows.fnExactRaysLitSpec.post enc Try.prog Try.f6 false true false false) := by
  refine returnsInHanded_of_change (C := Try.checked) own started (by kernel_rfl) Try.func6
    (ChangeSpec.witness6 (enc := enc) (C := Try.checked) false ⟨#[], #[.agg #[.int .i64 0, .int .i64 0], .slice none 0 0, .slice none 0 0], []⟩ 8 (by kernel_rfl) (by kernel_rfl) (by kernel_rfl) (by kernel_rfl)) ?_
  intro W base args ds gs before hval0 hW hcnd _
  have hval : ∀ (j : Nat) t v, Try.f6.params[j]? = some t → args[j]? = some v → Value.okWide Try.prog W .any base t v := hval0
  have hW' := hW
  obtain ⟨p, q, hA0, hV, rfl, hfz, hnd⟩ := hW
  have hA : DataW.TrodAll enc Try.prog W 0 (fun _ => true) true Try.f6.params.toList args.toList ds p := hA0
  rw [Try.params6] at hA hval
  obtain ⟨v0, vs0, d0, ds0, p0, q0, hargs, rfl, rfl, h0, r0⟩ := trodAll_cons hA
  obtain ⟨v1, vs1, d1, ds1, p1, q1, rfl, rfl, rfl, h1, r1⟩ := trodAll_cons r0
  obtain ⟨v2, vs2, d2, ds2, p2, q2, rfl, rfl, rfl, h2, r2⟩ := trodAll_cons r1
  obtain ⟨rfl, rfl, rfl⟩ := trodAll_nil r2
  obtain rfl : args = #[v0, v1, v2] := by cases args; simp_all
  obtain ⟨rfl, rfl⟩ := trodVars_none hV
  have k0 := h0
  have lt0 : ∀ x ∈ p0, x.block < W.heap.size := by obtain ⟨m, hm⟩ := k0; exact DataW.trod_lt m _ _ _ hm
  have k1 := h1
  have lt1 : ∀ x ∈ p1, x.block < W.heap.size := by obtain ⟨m, hm⟩ := k1; exact DataW.trod_lt m _ _ _ hm
  have k2 := h2
  have lt2 : ∀ x ∈ p2, x.block < W.heap.size := by obtain ⟨m, hm⟩ := k2; exact DataW.trod_lt m _ _ _ hm
  obtain ⟨⟨a0_0, a0_1⟩, rfl, q0⟩ := openPlace (hval 0 30 v0 rfl rfl) h0
  obtain ⟨A1, len1, cap1, rfl⟩ := okWide_slice Try.underlying22 (hval 1 22 v1 rfl rfl)
  obtain ⟨xs1, w1, l1, q1, hlen1⟩ : ∃ xs, SRow encBlock W A1 xs ∧ xs.length ≤ maxLen ∧ (∀ v ∈ xs, Wf v.1 ∧ Wf v.2.1 ∧ Wf v.2.2.1 ∧ Wf v.2.2.2.1 ∧ Wf v.2.2.2.2) ∧ xs.length = len1 := by
    obtain ⟨fuel, hf⟩ := h1
    obtain ⟨A, cap, xs, hcs, hl, hr, hq⟩ := openBlockS hf
    simp [Value.cells] at hcs
    obtain ⟨rfl, hn, rfl⟩ := hcs
    exact ⟨xs, hr, hl, hq, hn.symm⟩
  subst hlen1
  obtain ⟨A2, len2, cap2, rfl⟩ := okWide_slice Try.underlying45 (hval 2 45 v2 rfl rfl)
  obtain ⟨xs2, w2, l2, q2, hlen2⟩ : ∃ xs, SRow encRay W A2 xs ∧ xs.length ≤ maxLen ∧ (∀ v ∈ xs, Wf v.1 ∧ Wf v.2.1 ∧ Wf v.2.2) ∧ xs.length = len2 := by
    obtain ⟨fuel, hf⟩ := h2
    obtain ⟨A, cap, xs, hcs, hl, hr, hq⟩ := openRayS hf
    simp [Value.cells] at hcs
    obtain ⟨rfl, hn, rfl⟩ := hcs
    exact ⟨xs, hr, hl, hq, hn.symm⟩
  subst hlen2
  clear hA0 hval0
  refine (walk W a0_0 a0_1 q0 A1 cap1 xs1 w1 l1 q1 A2 cap2 xs2 w2 l2 q2).mono fun e W' ⟨he, bel⟩ => ?_
  subst he
  exact ⟨_, rfl, _, _, _, [], _, [], hW', trodAll_mk1 (shut_bool Try.underlying4 _), (trodAll_cons_mk (Below.trod laidOut (by kernel_rfl) (of_decide_eq_true (by kernel_rfl)) k0 bel lt0) (trodAll_cons_mk (Below.trod laidOut (by kernel_rfl) (of_decide_eq_true (by kernel_rfl)) k1 bel lt1) (trodAll_cons_mk (Below.trod laidOut (by kernel_rfl) (of_decide_eq_true (by kernel_rfl)) k2 bel lt2) trodAll_mk0))), rfl, bel.frame _, fun h => by cases h⟩

theorem over : Rows.fnExactRaysLitRow.holds Try.pinned (OpenSpec.ofChange Rows.fnExactRaysLitSpec) :=
  OpenClaim.holds_of_wide 6 Try.f6 rfl rfl rfl rfl rfl rfl rfl ⟨rfl, rfl, rfl, rfl, rfl⟩ rfl rfl rfl rfl rfl (by kernel_rfl) Try.func6 (by kernel_rfl)
    (of_decide_eq_true (by kernel_rfl)) (by unfold Func.isWrapper; first | (rw [if_pos (by decide +kernel)]; kernel_rfl) | (rw [if_neg (by decide +kernel)]; exact ⟨rfl, rfl⟩))
    (fun os started H enc _ => lifted os started H enc)

/-- The statement. -/
theorem proved : Rows.FnExactRaysLitSaid :=
  over
#print axioms proved
end Go.Proofs.Ytdmfipgmlplkiaa.fnExactRaysLit
