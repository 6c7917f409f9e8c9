/- FnExactBandRun: whatever the input, the law returns true, and its arguments read as they did. No conditions beyond those of the statement's row. -/
import Derived.Test.YtecliamihggpoaaBr
import Derived.Test.YtecliamihggpoaaGBand
namespace Go.Proofs.Ytecliamihggpoaa.fnExactBandRun
open Go.Proofs.Ytecliamihggpoaa
open Go.ChangeShapes Go.WideShapes Go.ChangeAt Go.RowKit Go.Joins
set_option linter.unusedVariables false
set_option linter.unusedSimpArgs false
set_option linter.unnecessarySimpa false

theorem own : ownKnob Try.prog.godebug = none := by kernel_rfl
theorem laidOut : laidOutB Try.prog = true := by kernel_rfl

set_option maxRecDepth 100000 in
set_option maxHeartbeats 4000000 in
theorem walk (w : World) (a0 : Bool) (a1_0 : Int) (a1_1 : Int) (q1 : Wf a1_0 ∧ Wf a1_1) (A2 : Option Addr) (cap2 : Nat) (xs2 : List Int) (w2 : SRow encNum w A2 xs2) (l2 : xs2.length ≤ maxLen) (q2 : ∀ v ∈ xs2, Wf v) :
    Calls Try.prog 6 #[.bool a0, .agg #[.int .i64 a1_0, .int .i64 a1_1], .slice A2 xs2.length cap2] w fun e w' => e = .returned (.bool true) ∧ Below w.heap.size w w' := by
  obtain ⟨l, hl⟩ : ∃ l, brL a0 a1_0 a1_1 xs2 = l := ⟨_, rfl⟩
  have hlen : l.length ≤ 1048576 := by rw [← hl]; have := brL_60 a0 a1_0 a1_1 xs2; omega
  have HV := Lib.hid hl
  clear hl q1
  have hW2 := w2
  clear q2
  have l2' := l2
  unfold maxLen at l2'
  by_cases hl : xs2.length ≤ 1048576
  · have hi2 : ¬ (xs2.length : Int) > 1048576 := by omega
    have hn2 : xs2.length ≤ 1048576 := hl
    clear hl
    go_enter Try.func6, Try.ntmps6
    have hB0 := bel1 w (.cells #[.int .i64 a1_0, .int .i64 a1_1] 23)
    have hA2_0 := hW2.next hB0
    have hP0 := blk_new w (.cells #[.int .i64 a1_0, .int .i64 a1_1] 23)
    have zB_P : w.heap.size < w.heap.size + 1 := by omega
    have zW := blk_lt hP0
    obtain ⟨m, hm⟩ : ∃ m, l.length = m := ⟨_, rfl⟩
    rw [hm] at hlen
    have HM := Lib.hid hm
    clear hm
    obtain ⟨cP0_0, cP0_1, fP0_0, fP0_1, zP0⟩ := blk2 hP0
    go_wp2_with fail
    refine (toBand_any _ _ _).mono ?_; rintro e' w1 ⟨rfl, hw1⟩
    have hP1 := blk_next hP0 hw1
    have hA2_1 := hA2_0.next hw1
    have hB1 := bel_next hB0 hw1
    go_wp2_with fail
    refine (toNumS_any A2 cap2 xs2 _ hA2_1 (by omega)).mono ?_; rintro e' w2 ⟨gC2_, rfl, hgC2_, hC2_2, hw2⟩
    have hP2 := blk_next hP1 hw2
    have hA2_2 := hA2_1.next hw2
    have hB2 := bel_next hB1 hw2
    have hz2 := hw2.size
    obtain ⟨cP2_0, cP2_1, fP2_0, fP2_1, zP2⟩ := blk2 hP2
    go_wp2_with fail
    refine (sBr_is _ _ xs2 _ _ rfl hC2_2.row (by omega) HV.out).mono ?_; rintro e' w3 ⟨As, cs, rfl, hS3, hw3⟩
    have hP3 := blk_next hP2 hw3
    have hA2_3 := hA2_2.next hw3
    have hC2_3 := hC2_2.next hw3
    have hB3 := bel_next hB2 hw3
    have hS3 := hS3.mono hB2.size
    rw [HM.out]
    have hz3 := hw3.size
    have hSlt : ∀ g, As = some ⟨g, 0, none⟩ → g < w3.heap.size := fun g hg => by rcases hS3.form with ⟨e, _⟩ | ⟨g1, e, _, h⟩; rw [e] at hg; cases hg; rw [e] at hg; cases hg; exact h
    go_wp2_with fail
    refine (toNumS_any A2 cap2 xs2 _ hA2_3 (by omega)).mono ?_; rintro e' w4 ⟨gD2_, rfl, hgD2_, hD2_4, hw4⟩
    have hP4 := blk_next hP3 hw4
    have hA2_4 := hA2_3.next hw4
    have hS4 := hS3.next hw4
    have hB4 := bel_next hB3 hw4
    have hz4 := hw4.size
    have hDlt2 := hD2_4.lt
    obtain ⟨cP4_0, cP4_1, fP4_0, fP4_1, zP4⟩ := blk2 hP4
    go_wp2_with fail
    refine (toBand_any _ _ _).mono ?_; rintro e' w5 ⟨rfl, hw5⟩
    have hP5 := blk_next hP4 hw5
    have hA2_5 := hA2_4.next hw5
    have hS5 := hS4.next hw5
    have hD2_5 := hD2_4.next hw5
    have hB5 := bel_next hB4 hw5
    have hz5 := hw5.size
    have zB0 := hB5.size
    obtain ⟨cP5_0, cP5_1, fP5_0, fP5_1, zP5⟩ := blk2 hP5
    go_wp2_with fail
    refine (iBr_is _ _ xs2 _ _ rfl hD2_5.row (by omega) HV.out).mono ?_; rintro e' w6 ⟨Ai, ci, rfl, hI6, hw6⟩
    have hP6 := blk_next hP5 hw6
    have hA2_6 := hA2_5.next hw6
    have hS6 := hS5.next hw6
    have hD2_6 := hD2_5.next hw6
    have hB6 := bel_next hB5 hw6
    rw [HM.out]
    have hz6 := hw6.size
    have hIge : ∀ g, Ai = some ⟨g, 0, none⟩ → w5.heap.size ≤ g := fun g hg => by rcases hI6.form with ⟨e, _⟩ | ⟨g1, e, h, _⟩; rw [e] at hg; cases hg; rw [e] at hg; cases hg; exact h
    go_wp2_with fail
    refine (eqBoolS_same _ _ _ _ l HM.out hI6.row hS6.row (by omega)).mono ?_; rintro e' w7 ⟨rfl, hw7⟩
    have hP7 := blk_next hP6 hw7
    have hA2_7 := hA2_6.next hw7
    have hS7 := hS6.next hw7
    have hD2_7 := hD2_6.next hw7
    have hI7 := hI6.next hw7
    have hB7 := bel_next hB6 hw7
    have hz7 := hw7.size
    go_wp2_with fail
    refine (toNumS_any A2 cap2 xs2 _ hA2_7 (by omega)).mono ?_; rintro e' w8 ⟨gE2_, rfl, hgE2_, hE2_8, hw8⟩
    have hP8 := blk_next hP7 hw8
    have hA2_8 := hA2_7.next hw8
    have hS8 := hS7.next hw8
    have hD2_8 := hD2_7.next hw8
    have hI8 := hI7.next hw8
    have hB8 := bel_next hB7 hw8
    have hz8 := hw8.size
    go_wp2_with fail
    refine (eqNumS_same _ _ _ _ xs2 rfl hD2_8.row hE2_8.row (by omega)).mono ?_; rintro e' w9 ⟨rfl, hw9⟩
    have hP9 := blk_next hP8 hw9
    have hA2_9 := hA2_8.next hw9
    have hS9 := hS8.next hw9
    have hD2_9 := hD2_8.next hw9
    have hI9 := hI8.next hw9
    have hE2_9 := hE2_8.next hw9
    have hB9 := bel_next hB8 hw9
    have hz9 := hw9.size
    go_wp2_with fail
    refine (markNumS_any w.heap.size _ _ xs2 1 rfl (SOwn.of_blk hD2_9 (by omega) rfl l2) (by omega) (by omega) (by omega)).mono ?_; rintro e' wM2 ⟨rfl, hDM, hG⟩
    have hB10 : Below w.heap.size w wM2 := hB9.grown hG hB9.size (fun j hj => by simp [Value.ownBlock] at hj; omega)
    have hI10 := hI9.grown_far hG (fun g hg e => by have := hIge g hg; simp [Value.ownBlock] at e; omega)
    have hS10 := hS9.grown_far hG (fun g hg e => by have := hSlt g hg; simp [Value.ownBlock] at e; omega)
    have hP10 := blk_grown1 hP9 hG (by have := zB_P; simp [Value.ownBlock]; omega)
    have hA2_10 := hW2.next hB10
    have hzM2 := hG.size
    clear hG hDM
    have hk0 : ¬ (1 + (xs2.length : Int)) < 0 := by omega
    go_wp2_with fail
    refine (eqBoolS_same _ _ _ _ l HM.out hI10.row hS10.row (by omega)).mono ?_; rintro e' w11 ⟨rfl, hw11⟩
    have hP11 := blk_next hP10 hw11
    have hA2_11 := hA2_10.next hw11
    have hS11 := hS10.next hw11
    have hI11 := hI10.next hw11
    have hB11 := bel_next hB10 hw11
    have hz11 := hw11.size
    go_wp2_with fail
    refine (markBoolS_any w.heap.size _ _ l 1 HM.out (hI11.mono (by omega)) (by omega) (by omega) (by omega)).mono ?_; rintro e' wN ⟨rfl, hIN, hG⟩
    have hB12 : Below w.heap.size w wN := SOwn.below_grown (hI11.mono (by omega)) hB11 hG
    have hS12 := hS11.grown_far hG (fun g hg e => by have := hSlt g hg; rcases hI11.form with ⟨e2, _⟩ | ⟨g1, e2, h, _⟩; rw [e2] at e; simp [Value.ownBlock] at e; rw [e2] at e; simp [Value.ownBlock] at e; have := hIge g1 e2; omega)
    have hP12 := blk_grownS hP11 hI11 hG (by omega)
    clear hG
    have hI12 := hIN
    have hA2_12 := hW2.next hB12
    go_wp2_with fail
    refine (heldBoolS_any Ai ci 1 (m := m) hI12.row (by omega) (by omega) (by omega)).mono ?_; rintro e' w13 ⟨rfl, hw13⟩
    have hP13 := blk_next hP12 hw13
    have hA2_13 := hA2_12.next hw13
    have hS13 := hS12.next hw13
    have hI13 := hI12.next hw13
    have hB13 := bel_next hB12 hw13
    have hk1 : ¬ (1 + (m : Int)) < 0 := by omega
    obtain ⟨cP13_0, cP13_1, fP13_0, fP13_1, zP13⟩ := blk2 hP13
    go_wp2_with fail
    refine (toBand_any _ _ _).mono ?_; rintro e' w14 ⟨rfl, hw14⟩
    have hP14 := blk_next hP13 hw14
    have hA2_14 := hA2_13.next hw14
    have hS14 := hS13.next hw14
    have hI14 := hI13.next hw14
    have hB14 := bel_next hB13 hw14
    go_wp2_with fail
    refine (toNumS_any A2 cap2 xs2 _ hA2_14 (by omega)).mono ?_; rintro e' w15 ⟨gF2_, rfl, hgF2_, hF2_15, hw15⟩
    have hP15 := blk_next hP14 hw15
    have hA2_15 := hA2_14.next hw15
    have hS15 := hS14.next hw15
    have hI15 := hI14.next hw15
    have hB15 := bel_next hB14 hw15
    obtain ⟨cP15_0, cP15_1, fP15_0, fP15_1, zP15⟩ := blk2 hP15
    go_wp2_with fail
    refine (iBr_is _ _ xs2 _ _ rfl hF2_15.row (by omega) HV.out).mono ?_; rintro e' w16 ⟨Ah, ch, rfl, hH16, hw16⟩
    have hP16 := blk_next hP15 hw16
    have hA2_16 := hA2_15.next hw16
    have hS16 := hS15.next hw16
    have hI16 := hI15.next hw16
    have hF2_16 := hF2_15.next hw16
    have hB16 := bel_next hB15 hw16
    rw [HM.out]
    go_wp2_with fail
    refine (eqBoolS_same _ _ _ _ l HM.out hH16.row hS16.row (by omega)).mono ?_; rintro e' w17 ⟨rfl, hw17⟩
    have hP17 := blk_next hP16 hw17
    have hA2_17 := hA2_16.next hw17
    have hS17 := hS16.next hw17
    have hI17 := hI16.next hw17
    have hF2_17 := hF2_16.next hw17
    have hH17 := hH16.next hw17
    have hB17 := bel_next hB16 hw17
    go_wp2_with fail
    refine (heldBoolS_any Ai ci 1 (m := m) hI17.row (by omega) (by omega) (by omega)).mono ?_; rintro e' w18 ⟨rfl, hw18⟩
    have hP18 := blk_next hP17 hw18
    have hA2_18 := hA2_17.next hw18
    have hS18 := hS17.next hw18
    have hI18 := hI17.next hw18
    have hF2_18 := hF2_17.next hw18
    have hH18 := hH17.next hw18
    have hB18 := bel_next hB17 hw18
    go_wp2
    go_ret
    exact ⟨rfl, by first | exact hB18 | exact hB18.drew⟩
  · have hi2 : (xs2.length : Int) > 1048576 := by omega
    clear hl
    go_enter Try.func6, Try.ntmps6
    go_wp2
    go_ret
    exact ⟨rfl, bel1 w (.cells #[.int .i64 a1_0, .int .i64 a1_1] 23)⟩

set_option maxRecDepth 100000 in
theorem lifted (os : Os) (started : os.Started) (H : Type) (enc : TypeId × Value → H) :
    ReturnsInHanded {} Try.checked os 6 .any (Rows.fnExactBandRunSpec.pre6 enc Try.prog Try.f6 Rows.fnExactBandRunRow.domain false) (Rows.fnExactBandRunSpec.post enc Try.prog Try.f6 false true false false) := by
  refine returnsInHanded_of_change (C := Try.checked) own started (by kernel_rfl) Try.func6
    (ChangeSpec.witness6 (enc := enc) (C := Try.checked) false ⟨#[], #[.bool false, .agg #[.int .i64 0, .int .i64 0], .slice none 0 0], []⟩ 8 (by kernel_rfl) (by kernel_rfl) (by kernel_rfl) (by kernel_rfl)) ?_
  intro W base args ds gs before hval0 hW hcnd _
  have hval : ∀ (j : Nat) t v, Try.f6.params[j]? = some t → args[j]? = some v → Value.okWide Try.prog W .any base t v := hval0
  have hW' := hW
  obtain ⟨p, q, hA0, hV, rfl, hfz, hnd⟩ := hW
  have hA : DataW.TrodAll enc Try.prog W 0 (fun _ => true) true Try.f6.params.toList args.toList ds p := hA0
  rw [Try.params6] at hA hval
  obtain ⟨v0, vs0, d0, ds0, p0, q0, hargs, rfl, rfl, h0, r0⟩ := trodAll_cons hA
  obtain ⟨v1, vs1, d1, ds1, p1, q1, rfl, rfl, rfl, h1, r1⟩ := trodAll_cons r0
  obtain ⟨v2, vs2, d2, ds2, p2, q2, rfl, rfl, rfl, h2, r2⟩ := trodAll_cons r1
  obtain ⟨rfl, rfl, rfl⟩ := trodAll_nil r2
  obtain rfl : args = #[v0, v1, v2] := by cases args; simp_all
  obtain ⟨rfl, rfl⟩ := trodVars_none hV
  have k0 := h0
  have lt0 : ∀ x ∈ p0, x.block < W.heap.size := by obtain ⟨m, hm⟩ := k0; exact DataW.trod_lt m _ _ _ hm
  have k1 := h1
  have lt1 : ∀ x ∈ p1, x.block < W.heap.size := by obtain ⟨m, hm⟩ := k1; exact DataW.trod_lt m _ _ _ hm
  have k2 := h2
  have lt2 : ∀ x ∈ p2, x.block < W.heap.size := by obtain ⟨m, hm⟩ := k2; exact DataW.trod_lt m _ _ _ hm
  obtain ⟨a0, rfl, rfl, rfl⟩ := open_bool Try.underlying4 (hval 0 4 v0 rfl rfl) h0
  obtain ⟨⟨a1_0, a1_1⟩, rfl, q1⟩ := openBand (hval 1 23 v1 rfl rfl) h1
  obtain ⟨A2, len2, cap2, rfl⟩ := okWide_slice Try.underlying28 (hval 2 28 v2 rfl rfl)
  obtain ⟨xs2, w2, l2, q2, hlen2⟩ : ∃ xs, SRow encNum W A2 xs ∧ xs.length ≤ maxLen ∧ (∀ v ∈ xs, Wf v) ∧ xs.length = len2 := by
    obtain ⟨fuel, hf⟩ := h2
    obtain ⟨A, cap, xs, hcs, hl, hr, hq⟩ := openNumS hf
    simp [Value.cells] at hcs
    obtain ⟨rfl, hn, rfl⟩ := hcs
    exact ⟨xs, hr, hl, hq, hn.symm⟩
  subst hlen2
  clear hA0 hval0
  refine (walk W a0 a1_0 a1_1 q1 A2 cap2 xs2 w2 l2 q2).mono fun e W' ⟨he, bel⟩ => ?_
  subst he
  exact ⟨_, rfl, _, _, _, [], _, [], hW', trodAll_mk1 (shut_bool Try.underlying4 _), (trodAll_cons_mk (Below.trod laidOut (by kernel_rfl) (of_decide_eq_true (by kernel_rfl)) k0 bel lt0) (trodAll_cons_mk (Below.trod laidOut (by kernel_rfl) (of_decide_eq_true (by kernel_rfl)) k1 bel lt1) (trodAll_cons_mk (Below.trod laidOut (by kernel_rfl) (of_decide_eq_true (by kernel_rfl)) k2 bel lt2) trodAll_mk0))), rfl, bel.frame _, fun h => by cases h⟩

theorem over : Rows.fnExactBandRunRow.holds Try.pinned (OpenSpec.ofChange Rows.fnExactBandRunSpec) :=
  OpenClaim.holds_of_wide 6 Try.f6 rfl rfl rfl rfl rfl rfl rfl ⟨rfl, rfl, rfl, rfl, rfl⟩ rfl rfl rfl rfl rfl (by kernel_rfl) Try.func6 (by kernel_rfl)
    (of_decide_eq_true (by kernel_rfl)) (by unfold Func.isWrapper; first | (rw [if_pos (by decide +kernel)]; kernel_rfl) | (rw [if_neg (by decide +kernel)]; exact ⟨rfl, rfl⟩))
    (fun os started H enc _ => lifted os started H enc)

/-- The statement. -/
theorem proved : Rows.FnExactBandRunSaid :=
  over
#print axioms proved
end Go.Proofs.Ytecliamihggpoaa.fnExactBandRun
