/- FnExactPlantMost: whatever the input, the law returns true, and its arguments read as they did. No conditions beyond those of the statement's row. -/
import Derived.Test.YtighdgdgejenlaaPpc
namespace Go.Proofs.Ytighdgdgejenlaa.fnExactPlantMost
open Go.Proofs.Ytighdgdgejenlaa
open Go.ChangeShapes Go.WideShapes Go.ChangeAt Go.RowKit Go.Joins
set_option linter.unusedVariables false
set_option linter.unusedSimpArgs false
set_option linter.unnecessarySimpa false

theorem own : ownKnob Try.prog.godebug = none := by kernel_rfl
theorem laidOut : laidOutB Try.prog = true := by kernel_rfl

set_option maxRecDepth 100000 in
set_option maxHeartbeats 4000000 in
theorem walk (w : World) (A0 : Option Addr) (cap0 : Nat) (xs0 : List Int) (w0 : SRow encNum w A0 xs0) (l0 : xs0.length ≤ maxLen) (q0 : ∀ v ∈ xs0, Wf v) (A1 : Option Addr) (cap1 : Nat) (xs1 : List VPlant) (w1 : SRow encPlant w A1 xs1) (l1 : xs1.length ≤ maxLen) (q1 : ∀ v ∈ xs1, Wf v.1 ∧ Wf v.2) :
    Calls Try.prog 4 #[.slice A0 xs0.length cap0, .slice A1 xs1.length cap1] w fun e w' => e = .returned (.bool true) ∧ Below w.heap.size w w' := by
  obtain ⟨v, hv⟩ : ∃ v, pxI xs0 xs1 = v := ⟨_, rfl⟩
  have HV := Lib.hid hv
  clear hv
  have hW0 := w0
  have hW1 := w1
  clear q0 q1
  have l0' := l0
  unfold maxLen at l0'
  have l1' := l1
  unfold maxLen at l1'
  by_cases hl : xs0.length ≤ 1048576
  · have hi0 : ¬ (xs0.length : Int) > 1048576 := by omega
    have hn0 : xs0.length ≤ 1048576 := hl
    clear hl
    go_enter Try.func4, Try.ntmps4
    go_wp2_with fail
    refine (szPlantS_any A1 _ cap1 1048576 _ (by omega) (by omega) l1).mono ?_; rintro e' w' ⟨r1, rfl, hL, rfl⟩
    rcases hL with rfl | ⟨s0_1, s1_1, hq⟩
    · go_wp2
      go_ret
      exact ⟨rfl, Below.refl _ _⟩
    · have hr1 : ¬ r1 < 0 := by omega
      have hn1 : xs1.length ≤ 1048576 := by omega
      clear hq
      have hB0 := Below.refl w.heap.size w
      have hA0_0 := hW0
      have hA1_0 := hW1
      go_wp2_with fail
      refine (toNumS_any A0 cap0 xs0 _ hA0_0 (by omega)).mono ?_; rintro e' w1 ⟨gC0_, rfl, hgC0_, hC0_1, hw1⟩
      have hA0_1 := hA0_0.next hw1
      have hA1_1 := hA1_0.next hw1
      have hB1 := bel_next hB0 hw1
      go_wp2_with fail
      refine (toPlantS_any A1 cap1 xs1 _ hA1_1 (by omega)).mono ?_; rintro e' w2 ⟨gC1_, rfl, hgC1_, hC1_2, hw2⟩
      have hA0_2 := hA0_1.next hw2
      have hA1_2 := hA1_1.next hw2
      have hC0_2 := hC0_1.next hw2
      have hB2 := bel_next hB1 hw2
      go_wp2_with fail
      refine (sPx_is _ _ _ _ xs0 xs1 _ rfl rfl hC0_2.row hC1_2.row (by omega) (by omega) HV.out).mono ?_; rintro e' w3 ⟨rfl, hw3⟩
      have hA0_3 := hA0_2.next hw3
      have hA1_3 := hA1_2.next hw3
      have hC0_3 := hC0_2.next hw3
      have hC1_3 := hC1_2.next hw3
      have hB3 := bel_next hB2 hw3
      go_wp2_with fail
      refine (toNumS_any A0 cap0 xs0 _ hA0_3 (by omega)).mono ?_; rintro e' w4 ⟨gD0_, rfl, hgD0_, hD0_4, hw4⟩
      have hA0_4 := hA0_3.next hw4
      have hA1_4 := hA1_3.next hw4
      have hC0_4 := hC0_3.next hw4
      have hC1_4 := hC1_3.next hw4
      have hB4 := bel_next hB3 hw4
      go_wp2_with fail
      refine (toPlantS_any A1 cap1 xs1 _ hA1_4 (by omega)).mono ?_; rintro e' w5 ⟨gD1_, rfl, hgD1_, hD1_5, hw5⟩
      have hA0_5 := hA0_4.next hw5
      have hA1_5 := hA1_4.next hw5
      have hC0_5 := hC0_4.next hw5
      have hC1_5 := hC1_4.next hw5
      have hD0_5 := hD0_4.next hw5
      have hB5 := bel_next hB4 hw5
      go_wp2_with fail
      refine (iPx_is _ _ _ _ xs0 xs1 _ rfl rfl hD0_5.row hD1_5.row (by omega) (by omega) HV.out).mono ?_; rintro e' w6 ⟨rfl, hw6⟩
      have hA0_6 := hA0_5.next hw6
      have hA1_6 := hA1_5.next hw6
      have hC0_6 := hC0_5.next hw6
      have hC1_6 := hC1_5.next hw6
      have hD0_6 := hD0_5.next hw6
      have hD1_6 := hD1_5.next hw6
      have hB6 := bel_next hB5 hw6
      go_wp2_with fail
      refine (toNumS_any A0 cap0 xs0 _ hA0_6 (by omega)).mono ?_; rintro e' w7 ⟨gE0_, rfl, hgE0_, hE0_7, hw7⟩
      have hA0_7 := hA0_6.next hw7
      have hA1_7 := hA1_6.next hw7
      have hC0_7 := hC0_6.next hw7
      have hC1_7 := hC1_6.next hw7
      have hD0_7 := hD0_6.next hw7
      have hD1_7 := hD1_6.next hw7
      have hB7 := bel_next hB6 hw7
      go_wp2_with fail
      refine (eqNumS_same _ _ _ _ xs0 rfl hD0_7.row hE0_7.row (by omega)).mono ?_; rintro e' w8 ⟨rfl, hw8⟩
      have hA0_8 := hA0_7.next hw8
      have hA1_8 := hA1_7.next hw8
      have hC0_8 := hC0_7.next hw8
      have hC1_8 := hC1_7.next hw8
      have hD0_8 := hD0_7.next hw8
      have hD1_8 := hD1_7.next hw8
      have hE0_8 := hE0_7.next hw8
      have hB8 := bel_next hB7 hw8
      go_wp2_with fail
      refine (toPlantS_any A1 cap1 xs1 _ hA1_8 (by omega)).mono ?_; rintro e' w9 ⟨gE1_, rfl, hgE1_, hE1_9, hw9⟩
      have hA0_9 := hA0_8.next hw9
      have hA1_9 := hA1_8.next hw9
      have hC0_9 := hC0_8.next hw9
      have hC1_9 := hC1_8.next hw9
      have hD0_9 := hD0_8.next hw9
      have hD1_9 := hD1_8.next hw9
      have hE0_9 := hE0_8.next hw9
      have hB9 := bel_next hB8 hw9
      go_wp2_with fail
      refine (eqPlantS_same _ _ _ _ xs1 rfl hD1_9.row hE1_9.row (by omega)).mono ?_; rintro e' w10 ⟨rfl, hw10⟩
      have hA0_10 := hA0_9.next hw10
      have hA1_10 := hA1_9.next hw10
      have hC0_10 := hC0_9.next hw10
      have hC1_10 := hC1_9.next hw10
      have hD0_10 := hD0_9.next hw10
      have hD1_10 := hD1_9.next hw10
      have hE0_10 := hE0_9.next hw10
      have hE1_10 := hE1_9.next hw10
      have hB10 := bel_next hB9 hw10
      go_wp2
      go_ret
      exact ⟨rfl, by first | exact hB10 | exact hB10.drew⟩
  · have hi0 : (xs0.length : Int) > 1048576 := by omega
    clear hl
    go_enter Try.func4, Try.ntmps4
    go_wp2
    go_ret
    exact ⟨rfl, Below.refl _ _⟩

set_option maxRecDepth 100000 in
theorem lifted (os : Os) (started : os.Started) (H : Type) (enc : TypeId × Value → H) :
    ReturnsInHanded {} Try.checked os 4 .any (Rows.fnExactPlantMostSpec.pre6 enc Try.prog Try.f4 Rows.fnExactPlantMostRow.domain false) (Rows.fnExactPlantMostSpec.post enc Try.prog Try.f4 false true false false) := by
  refine returnsInHanded_of_change (C := Try.checked) own started (by kernel_rfl) Try.func4
    (ChangeSpec.witness6 (enc := enc) (C := Try.checked) false ⟨#[], #[.slice none 0 0, .slice none 0 0], []⟩ 8 (by kernel_rfl) (by kernel_rfl) (by kernel_rfl) (by kernel_rfl)) ?_
  intro W base args ds gs before hval0 hW hcnd _
  have hval : ∀ (j : Nat) t v, Try.f4.params[j]? = some t → args[j]? = some v → Value.okWide Try.prog W .any base t v := hval0
  have hW' := hW
  obtain ⟨p, q, hA0, hV, rfl, hfz, hnd⟩ := hW
  have hA : DataW.TrodAll enc Try.prog W 0 (fun _ => true) true Try.f4.params.toList args.toList ds p := hA0
  rw [Try.params4] at hA hval
  obtain ⟨v0, vs0, d0, ds0, p0, q0, hargs, rfl, rfl, h0, r0⟩ := trodAll_cons hA
  obtain ⟨v1, vs1, d1, ds1, p1, q1, rfl, rfl, rfl, h1, r1⟩ := trodAll_cons r0
  obtain ⟨rfl, rfl, rfl⟩ := trodAll_nil r1
  obtain rfl : args = #[v0, v1] := by cases args; simp_all
  obtain ⟨rfl, rfl⟩ := trodVars_none hV
  have k0 := h0
  have lt0 : ∀ x ∈ p0, x.block < W.heap.size := by obtain ⟨m, hm⟩ := k0; exact DataW.trod_lt m _ _ _ hm
  have k1 := h1
  have lt1 : ∀ x ∈ p1, x.block < W.heap.size := by obtain ⟨m, hm⟩ := k1; exact DataW.trod_lt m _ _ _ hm
  obtain ⟨A0, len0, cap0, rfl⟩ := okWide_slice Try.underlying22 (hval 0 22 v0 rfl rfl)
  obtain ⟨xs0, w0, l0, q0, hlen0⟩ : ∃ xs, SRow encNum W A0 xs ∧ xs.length ≤ maxLen ∧ (∀ v ∈ xs, Wf v) ∧ xs.length = len0 := by
    obtain ⟨fuel, hf⟩ := h0
    obtain ⟨A, cap, xs, hcs, hl, hr, hq⟩ := openNumS hf
    simp [Value.cells] at hcs
    obtain ⟨rfl, hn, rfl⟩ := hcs
    exact ⟨xs, hr, hl, hq, hn.symm⟩
  subst hlen0
  obtain ⟨A1, len1, cap1, rfl⟩ := okWide_slice Try.underlying23 (hval 1 23 v1 rfl rfl)
  obtain ⟨xs1, w1, l1, q1, hlen1⟩ : ∃ xs, SRow encPlant W A1 xs ∧ xs.length ≤ maxLen ∧ (∀ v ∈ xs, Wf v.1 ∧ Wf v.2) ∧ xs.length = len1 := by
    obtain ⟨fuel, hf⟩ := h1
    obtain ⟨A, cap, xs, hcs, hl, hr, hq⟩ := openPlantS hf
    simp [Value.cells] at hcs
    obtain ⟨rfl, hn, rfl⟩ := hcs
    exact ⟨xs, hr, hl, hq, hn.symm⟩
  subst hlen1
  clear hA0 hval0
  refine (walk W A0 cap0 xs0 w0 l0 q0 A1 cap1 xs1 w1 l1 q1).mono fun e W' ⟨he, bel⟩ => ?_
  subst he
  exact ⟨_, rfl, _, _, _, [], _, [], hW', trodAll_mk1 (shut_bool Try.underlying4 _), (trodAll_cons_mk (Below.trod laidOut (by kernel_rfl) (of_decide_eq_true (by kernel_rfl)) k0 bel lt0) (trodAll_cons_mk (Below.trod laidOut (by kernel_rfl) (of_decide_eq_true (by kernel_rfl)) k1 bel lt1) trodAll_mk0)), rfl, bel.frame _, fun h => by cases h⟩

theorem over : Rows.fnExactPlantMostRow.holds Try.pinned (OpenSpec.ofChange Rows.fnExactPlantMostSpec) :=
  OpenClaim.holds_of_wide 4 Try.f4 rfl rfl rfl rfl rfl rfl rfl ⟨rfl, rfl, rfl, rfl, rfl⟩ rfl rfl rfl rfl rfl (by kernel_rfl) Try.func4 (by kernel_rfl)
    (of_decide_eq_true (by kernel_rfl)) (by unfold Func.isWrapper; first | (rw [if_pos (by decide +kernel)]; kernel_rfl) | (rw [if_neg (by decide +kernel)]; exact ⟨rfl, rfl⟩))
    (fun os started H enc _ => lifted os started H enc)

/-- The statement. -/
theorem proved : Rows.FnExactPlantMostSaid :=
  over
#print axioms proved
end Go.Proofs.Ytighdgdgejenlaa.fnExactPlantMost
