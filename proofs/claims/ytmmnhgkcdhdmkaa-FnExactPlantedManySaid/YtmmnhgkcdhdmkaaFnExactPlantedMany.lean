/- FnExactPlantedMany: whatever the input, the law returns true, and its arguments read as they did. No conditions beyond those of the statement's row. -/
import Derived.Test.YtmmnhgkcdhdmkaaQp
namespace Go.Proofs.Ytmmnhgkcdhdmkaa.fnExactPlantedMany
open Go.Proofs.Ytmmnhgkcdhdmkaa
open Go.ChangeShapes Go.WideShapes Go.ChangeAt Go.RowKit Go.Joins
set_option linter.unusedVariables false
set_option linter.unusedSimpArgs false
set_option linter.unnecessarySimpa false

theorem own : ownKnob Try.prog.godebug = none := by kernel_rfl
theorem laidOut : laidOutB Try.prog = true := by kernel_rfl

set_option maxRecDepth 100000 in
set_option maxHeartbeats 4000000 in
theorem walk (w : World) (A0 : Option Addr) (cap0 : Nat) (xs0 : List Int) (w0 : SRow encNum w A0 xs0) (l0 : xs0.length ≤ maxLen) (q0 : ∀ v ∈ xs0, Wf v) (A1 : Option Addr) (cap1 : Nat) (xs1 : List VPlant) (w1 : SRow encPlant w A1 xs1) (l1 : xs1.length ≤ maxLen) (q1 : ∀ v ∈ xs1, Wf v.1 ∧ Wf v.2) (A2 : Option Addr) (cap2 : Nat) (xs2 : List Int) (w2 : SRow encNum w A2 xs2) (l2 : xs2.length ≤ maxLen) (q2 : ∀ v ∈ xs2, Wf v) :
    Calls Try.prog 6 #[.slice A0 xs0.length cap0, .slice A1 xs1.length cap1, .slice A2 xs2.length cap2] w fun e w' => e = .returned (.bool true) ∧ Below w.heap.size w w' := by
  obtain ⟨v, hv⟩ : ∃ v, pmI xs0 xs1 xs2 = v := ⟨_, rfl⟩
  have HV := Lib.hid hv
  clear hv
  have hW0 := w0
  have hW1 := w1
  have hW2 := w2
  clear q0 q1 q2
  have l0' := l0
  unfold maxLen at l0'
  have l1' := l1
  unfold maxLen at l1'
  have l2' := l2
  unfold maxLen at l2'
  by_cases hl : xs0.length ≤ 1048576
  · have hi0 : ¬ (xs0.length : Int) > 1048576 := by omega
    have hn0 : xs0.length ≤ 1048576 := hl
    clear hl
    by_cases hl : xs2.length ≤ 1048576
    · have hi2 : ¬ (xs2.length : Int) > 1048576 := by omega
      have hn2 : xs2.length ≤ 1048576 := hl
      clear hl
      go_enter Try.func6, Try.ntmps6
      go_wp2_with fail
      refine (szPlantS_any A1 _ cap1 1048576 _ (by omega) (by omega) l1).mono ?_; rintro e' w' ⟨r1, rfl, hL, rfl⟩
      rcases hL with rfl | ⟨s0_1, s1_1, hq⟩
      · go_wp2
        go_ret
        exact ⟨rfl, Below.refl _ _⟩
      · have hr1 : ¬ r1 < 0 := by omega
        have hn1 : xs1.length ≤ 1048576 := by omega
        clear hq
        have hB0 := Below.refl w.heap.size w
        have hA0_0 := hW0
        have hA1_0 := hW1
        have hA2_0 := hW2
        go_wp2_with fail
        refine (toNumS_any A0 cap0 xs0 _ hA0_0 (by omega)).mono ?_; rintro e' w1 ⟨gC0_, rfl, hgC0_, hC0_1, hw1⟩
        have hA0_1 := hA0_0.next hw1
        have hA1_1 := hA1_0.next hw1
        have hA2_1 := hA2_0.next hw1
        have hB1 := bel_next hB0 hw1
        go_wp2_with fail
        refine (toPlantS_any A1 cap1 xs1 _ hA1_1 (by omega)).mono ?_; rintro e' w2 ⟨gC1_, rfl, hgC1_, hC1_2, hw2⟩
        have hA0_2 := hA0_1.next hw2
        have hA1_2 := hA1_1.next hw2
        have hA2_2 := hA2_1.next hw2
        have hC0_2 := hC0_1.next hw2
        have hB2 := bel_next hB1 hw2
        go_wp2_with fail
        refine (toNumS_any A2 cap2 xs2 _ hA2_2 (by omega)).mono ?_; rintro e' w3 ⟨gC2_, rfl, hgC2_, hC2_3, hw3⟩
        have hA0_3 := hA0_2.next hw3
        have hA1_3 := hA1_2.next hw3
        have hA2_3 := hA2_2.next hw3
        have hC0_3 := hC0_2.next hw3
        have hC1_3 := hC1_2.next hw3
        have hB3 := bel_next hB2 hw3
        go_wp2_with fail
        refine (sPm_is _ _ _ _ _ _ xs0 xs1 xs2 _ rfl rfl rfl hC0_3.row hC1_3.row hC2_3.row (by omega) (by omega) (by omega) (Nat.le_refl _) HV.out).mono ?_; rintro e' w4 ⟨rfl, hw4⟩
        have hA0_4 := hA0_3.next hw4
        have hA1_4 := hA1_3.next hw4
        have hA2_4 := hA2_3.next hw4
        have hC0_4 := hC0_3.next hw4
        have hC1_4 := hC1_3.next hw4
        have hC2_4 := hC2_3.next hw4
        have hB4 := bel_next hB3 hw4
        go_wp2_with fail
        refine (toNumS_any A0 cap0 xs0 _ hA0_4 (by omega)).mono ?_; rintro e' w5 ⟨gD0_, rfl, hgD0_, hD0_5, hw5⟩
        have hA0_5 := hA0_4.next hw5
        have hA1_5 := hA1_4.next hw5
        have hA2_5 := hA2_4.next hw5
        have hC0_5 := hC0_4.next hw5
        have hC1_5 := hC1_4.next hw5
        have hC2_5 := hC2_4.next hw5
        have hB5 := bel_next hB4 hw5
        go_wp2_with fail
        refine (toPlantS_any A1 cap1 xs1 _ hA1_5 (by omega)).mono ?_; rintro e' w6 ⟨gD1_, rfl, hgD1_, hD1_6, hw6⟩
        have hA0_6 := hA0_5.next hw6
        have hA1_6 := hA1_5.next hw6
        have hA2_6 := hA2_5.next hw6
        have hC0_6 := hC0_5.next hw6
        have hC1_6 := hC1_5.next hw6
        have hC2_6 := hC2_5.next hw6
        have hD0_6 := hD0_5.next hw6
        have hB6 := bel_next hB5 hw6
        go_wp2_with fail
        refine (toNumS_any A2 cap2 xs2 _ hA2_6 (by omega)).mono ?_; rintro e' w7 ⟨gD2_, rfl, hgD2_, hD2_7, hw7⟩
        have hA0_7 := hA0_6.next hw7
        have hA1_7 := hA1_6.next hw7
        have hA2_7 := hA2_6.next hw7
        have hC0_7 := hC0_6.next hw7
        have hC1_7 := hC1_6.next hw7
        have hC2_7 := hC2_6.next hw7
        have hD0_7 := hD0_6.next hw7
        have hD1_7 := hD1_6.next hw7
        have hB7 := bel_next hB6 hw7
        go_wp2_with fail
        refine (iPm_is _ _ _ _ _ _ xs0 xs1 xs2 _ rfl rfl rfl hD0_7.row hD1_7.row hD2_7.row (by omega) (by omega) (by omega) (Nat.le_refl _) HV.out).mono ?_; rintro e' w8 ⟨rfl, hw8⟩
        have hA0_8 := hA0_7.next hw8
        have hA1_8 := hA1_7.next hw8
        have hA2_8 := hA2_7.next hw8
        have hC0_8 := hC0_7.next hw8
        have hC1_8 := hC1_7.next hw8
        have hC2_8 := hC2_7.next hw8
        have hD0_8 := hD0_7.next hw8
        have hD1_8 := hD1_7.next hw8
        have hD2_8 := hD2_7.next hw8
        have hB8 := bel_next hB7 hw8
        go_wp2_with fail
        refine (toNumS_any A0 cap0 xs0 _ hA0_8 (by omega)).mono ?_; rintro e' w9 ⟨gE0_, rfl, hgE0_, hE0_9, hw9⟩
        have hA0_9 := hA0_8.next hw9
        have hA1_9 := hA1_8.next hw9
        have hA2_9 := hA2_8.next hw9
        have hC0_9 := hC0_8.next hw9
        have hC1_9 := hC1_8.next hw9
        have hC2_9 := hC2_8.next hw9
        have hD0_9 := hD0_8.next hw9
        have hD1_9 := hD1_8.next hw9
        have hD2_9 := hD2_8.next hw9
        have hB9 := bel_next hB8 hw9
        go_wp2_with fail
        refine (eqNumS_same _ _ _ _ xs0 rfl hD0_9.row hE0_9.row (by omega)).mono ?_; rintro e' w10 ⟨rfl, hw10⟩
        have hA0_10 := hA0_9.next hw10
        have hA1_10 := hA1_9.next hw10
        have hA2_10 := hA2_9.next hw10
        have hC0_10 := hC0_9.next hw10
        have hC1_10 := hC1_9.next hw10
        have hC2_10 := hC2_9.next hw10
        have hD0_10 := hD0_9.next hw10
        have hD1_10 := hD1_9.next hw10
        have hD2_10 := hD2_9.next hw10
        have hE0_10 := hE0_9.next hw10
        have hB10 := bel_next hB9 hw10
        go_wp2_with fail
        refine (toPlantS_any A1 cap1 xs1 _ hA1_10 (by omega)).mono ?_; rintro e' w11 ⟨gE1_, rfl, hgE1_, hE1_11, hw11⟩
        have hA0_11 := hA0_10.next hw11
        have hA1_11 := hA1_10.next hw11
        have hA2_11 := hA2_10.next hw11
        have hC0_11 := hC0_10.next hw11
        have hC1_11 := hC1_10.next hw11
        have hC2_11 := hC2_10.next hw11
        have hD0_11 := hD0_10.next hw11
        have hD1_11 := hD1_10.next hw11
        have hD2_11 := hD2_10.next hw11
        have hE0_11 := hE0_10.next hw11
        have hB11 := bel_next hB10 hw11
        go_wp2_with fail
        refine (eqPlantS_same _ _ _ _ xs1 rfl hD1_11.row hE1_11.row (by omega)).mono ?_; rintro e' w12 ⟨rfl, hw12⟩
        have hA0_12 := hA0_11.next hw12
        have hA1_12 := hA1_11.next hw12
        have hA2_12 := hA2_11.next hw12
        have hC0_12 := hC0_11.next hw12
        have hC1_12 := hC1_11.next hw12
        have hC2_12 := hC2_11.next hw12
        have hD0_12 := hD0_11.next hw12
        have hD1_12 := hD1_11.next hw12
        have hD2_12 := hD2_11.next hw12
        have hE0_12 := hE0_11.next hw12
        have hE1_12 := hE1_11.next hw12
        have hB12 := bel_next hB11 hw12
        go_wp2_with fail
        refine (toNumS_any A2 cap2 xs2 _ hA2_12 (by omega)).mono ?_; rintro e' w13 ⟨gE2_, rfl, hgE2_, hE2_13, hw13⟩
        have hA0_13 := hA0_12.next hw13
        have hA1_13 := hA1_12.next hw13
        have hA2_13 := hA2_12.next hw13
        have hC0_13 := hC0_12.next hw13
        have hC1_13 := hC1_12.next hw13
        have hC2_13 := hC2_12.next hw13
        have hD0_13 := hD0_12.next hw13
        have hD1_13 := hD1_12.next hw13
        have hD2_13 := hD2_12.next hw13
        have hE0_13 := hE0_12.next hw13
        have hE1_13 := hE1_12.next hw13
        have hB13 := bel_next hB12 hw13
        go_wp2_with fail
        refine (eqNumS_same _ _ _ _ xs2 rfl hD2_13.row hE2_13.row (by omega)).mono ?_; rintro e' w14 ⟨rfl, hw14⟩
        have hA0_14 := hA0_13.next hw14
        have hA1_14 := hA1_13.next hw14
        have hA2_14 := hA2_13.next hw14
        have hC0_14 := hC0_13.next hw14
        have hC1_14 := hC1_13.next hw14
        have hC2_14 := hC2_13.next hw14
        have hD0_14 := hD0_13.next hw14
        have hD1_14 := hD1_13.next hw14
        have hD2_14 := hD2_13.next hw14
        have hE0_14 := hE0_13.next hw14
        have hE1_14 := hE1_13.next hw14
        have hE2_14 := hE2_13.next hw14
        have hB14 := bel_next hB13 hw14
        go_wp2
        go_ret
        exact ⟨rfl, by first | exact hB14 | exact hB14.drew⟩
    · have hi2 : (xs2.length : Int) > 1048576 := by omega
      clear hl
      go_enter Try.func6, Try.ntmps6
      go_wp2
      go_ret
      exact ⟨rfl, Below.refl _ _⟩
  · have hi0 : (xs0.length : Int) > 1048576 := by omega
    clear hl
    go_enter Try.func6, Try.ntmps6
    go_wp2
    go_ret
    exact ⟨rfl, Below.refl _ _⟩

set_option maxRecDepth 100000 in
theorem lifted (os : Os) (started : os.Started) (H : Type) (enc : TypeId × Value → H) :
    ReturnsInHanded {} Try.checked os 6 .any (Rows.fnExactPlantedManySpec.pre6 enc Try.prog Try.f6 Rows.fnExactPlantedManyRow.domain false) (Rows.fnExactPlantedManySpec.post enc Try.prog Try.f6 false true false false) := by
  refine returnsInHanded_of_change (C := Try.checked) own started (by kernel_rfl) Try.func6
    (ChangeSpec.witness6 (enc := enc) (C := Try.checked) false ⟨#[], #[.slice none 0 0, .slice none 0 0, .slice none 0 0], []⟩ 8 (by kernel_rfl) (by kernel_rfl) (by kernel_rfl) (by kernel_rfl)) ?_
  intro W base args ds gs before hval0 hW hcnd _
  have hval : ∀ (j : Nat) t v, Try.f6.params[j]? = some t → args[j]? = some v → Value.okWide Try.prog W .any base t v := hval0
  have hW' := hW
  obtain ⟨p, q, hA0, hV, rfl, hfz, hnd⟩ := hW
  have hA : DataW.TrodAll enc Try.prog W 0 (fun _ => true) true Try.f6.params.toList args.toList ds p := hA0
  rw [Try.params6] at hA hval
  obtain ⟨v0, vs0, d0, ds0, p0, q0, hargs, rfl, rfl, h0, r0⟩ := trodAll_cons hA
  obtain ⟨v1, vs1, d1, ds1, p1, q1, rfl, rfl, rfl, h1, r1⟩ := trodAll_cons r0
  obtain ⟨v2, vs2, d2, ds2, p2, q2, rfl, rfl, rfl, h2, r2⟩ := trodAll_cons r1
  obtain ⟨rfl, rfl, rfl⟩ := trodAll_nil r2
  obtain rfl : args = #[v0, v1, v2] := by cases args; simp_all
  obtain ⟨rfl, rfl⟩ := trodVars_none hV
  have k0 := h0
  have lt0 : ∀ x ∈ p0, x.block < W.heap.size := by obtain ⟨m, hm⟩ := k0; exact DataW.trod_lt m _ _ _ hm
  have k1 := h1
  have lt1 : ∀ x ∈ p1, x.block < W.heap.size := by obtain ⟨m, hm⟩ := k1; exact DataW.trod_lt m _ _ _ hm
  have k2 := h2
  have lt2 : ∀ x ∈ p2, x.block < W.heap.size := by obtain ⟨m, hm⟩ := k2; exact DataW.trod_lt m _ _ _ hm
  obtain ⟨A0, len0, cap0, rfl⟩ := okWide_slice Try.underlying22 (hval 0 22 v0 rfl rfl)
  obtain ⟨xs0, w0, l0, q0, hlen0⟩ : ∃ xs, SRow encNum W A0 xs ∧ xs.length ≤ maxLen ∧ (∀ v ∈ xs, Wf v) ∧ xs.length = len0 := by
    obtain ⟨fuel, hf⟩ := h0
    obtain ⟨A, cap, xs, hcs, hl, hr, hq⟩ := openNumS hf
    simp [Value.cells] at hcs
    obtain ⟨rfl, hn, rfl⟩ := hcs
    exact ⟨xs, hr, hl, hq, hn.symm⟩
  subst hlen0
  obtain ⟨A1, len1, cap1, rfl⟩ := okWide_slice Try.underlying26 (hval 1 26 v1 rfl rfl)
  obtain ⟨xs1, w1, l1, q1, hlen1⟩ : ∃ xs, SRow encPlant W A1 xs ∧ xs.length ≤ maxLen ∧ (∀ v ∈ xs, Wf v.1 ∧ Wf v.2) ∧ xs.length = len1 := by
    obtain ⟨fuel, hf⟩ := h1
    obtain ⟨A, cap, xs, hcs, hl, hr, hq⟩ := openPlantS hf
    simp [Value.cells] at hcs
    obtain ⟨rfl, hn, rfl⟩ := hcs
    exact ⟨xs, hr, hl, hq, hn.symm⟩
  subst hlen1
  obtain ⟨A2, len2, cap2, rfl⟩ := okWide_slice Try.underlying22 (hval 2 22 v2 rfl rfl)
  obtain ⟨xs2, w2, l2, q2, hlen2⟩ : ∃ xs, SRow encNum W A2 xs ∧ xs.length ≤ maxLen ∧ (∀ v ∈ xs, Wf v) ∧ xs.length = len2 := by
    obtain ⟨fuel, hf⟩ := h2
    obtain ⟨A, cap, xs, hcs, hl, hr, hq⟩ := openNumS hf
    simp [Value.cells] at hcs
    obtain ⟨rfl, hn, rfl⟩ := hcs
    exact ⟨xs, hr, hl, hq, hn.symm⟩
  subst hlen2
  clear hA0 hval0
  refine (walk W A0 cap0 xs0 w0 l0 q0 A1 cap1 xs1 w1 l1 q1 A2 cap2 xs2 w2 l2 q2).mono fun e W' ⟨he, bel⟩ => ?_
  subst he
  exact ⟨_, rfl, _, _, _, [], _, [], hW', trodAll_mk1 (shut_bool Try.underlying4 _), (trodAll_cons_mk (Below.trod laidOut (by kernel_rfl) (of_decide_eq_true (by kernel_rfl)) k0 bel lt0) (trodAll_cons_mk (Below.trod laidOut (by kernel_rfl) (of_decide_eq_true (by kernel_rfl)) k1 bel lt1) (trodAll_cons_mk (Below.trod laidOut (by kernel_rfl) (of_decide_eq_true (by kernel_rfl)) k2 bel lt2) trodAll_mk0))), rfl, bel.frame _, fun h => by cases h⟩

theorem over : Rows.fnExactPlantedManyRow.holds Try.pinned (OpenSpec.ofChange Rows.fnExactPlantedManySpec) :=
  OpenClaim.holds_of_wide 6 Try.f6 rfl rfl rfl rfl rfl rfl rfl ⟨rfl, rfl, rfl, rfl, rfl⟩ rfl rfl rfl rfl rfl (by kernel_rfl) Try.func6 (by kernel_rfl)
    (of_decide_eq_true (by kernel_rfl)) (by unfold Func.isWrapper; first | (rw [if_pos (by decide +kernel)]; kernel_rfl) | (rw [if_neg (by decide +kernel)]; exact ⟨rfl, rfl⟩))
    (fun os started H enc _ => lifted os started H enc)

/-- The statement. -/
theorem proved : Rows.FnExactPlantedManySaid :=
  over
#print axioms proved
end Go.Proofs.Ytmmnhgkcdhdmkaa.fnExactPlantedMany
