/- FnExactPlantBest: whatever the input, the law returns true, and its arguments read as they did. No conditions beyond those of the statement's row. -/
import Derived.Test.YtighdgdgejenlaaPpc
import Derived.Test.YtighdgdgejenlaaKl9
namespace Go.Proofs.Ytighdgdgejenlaa.fnExactPlantBest
open Go.Proofs.Ytighdgdgejenlaa
open Go.ChangeShapes Go.WideShapes Go.ChangeAt Go.RowKit Go.Joins
set_option linter.unusedVariables false
set_option linter.unusedSimpArgs false
set_option linter.unnecessarySimpa false

theorem own : ownKnob Try.prog.godebug = none := by kernel_rfl
theorem laidOut : laidOutB Try.prog = true := by kernel_rfl

set_option maxRecDepth 100000 in
set_option maxHeartbeats 4000000 in
theorem walk (w : World) (A0 : Option Addr) (cap0 : Nat) (xs0 : List Int) (w0 : SRow encNum w A0 xs0) (l0 : xs0.length ≤ maxLen) (q0 : ∀ v ∈ xs0, Wf v) (A1 : Option Addr) (cap1 : Nat) (xs1 : List VPlant) (w1 : SRow encPlant w A1 xs1) (l1 : xs1.length ≤ maxLen) (q1 : ∀ v ∈ xs1, Wf v.1 ∧ Wf v.2) :
    Calls Try.prog 3 #[.slice A0 xs0.length cap0, .slice A1 xs1.length cap1] w fun e w' => e = .returned (.bool true) ∧ Below w.heap.size w w' := by
  obtain ⟨l, hl⟩ : ∃ l, pbL xs0 xs1 = l := ⟨_, rfl⟩
  have hlen : l.length ≤ 1048576 := by rw [← hl]; have := pbL_len (bs := xs0) (ps := xs1); omega
  have HV := Lib.hid hl
  clear hl 
  have hW0 := w0
  have hW1 := w1
  clear q0 q1
  have l0' := l0
  unfold maxLen at l0'
  have l1' := l1
  unfold maxLen at l1'
  by_cases hl : xs0.length ≤ 1048576
  · have hi0 : ¬ (xs0.length : Int) > 1048576 := by omega
    have hn0 : xs0.length ≤ 1048576 := hl
    clear hl
    go_enter Try.func3, Try.ntmps3
    go_wp2_with fail
    refine (szPlantS_any A1 _ cap1 1048576 _ (by omega) (by omega) l1).mono ?_; rintro e' w' ⟨r1, rfl, hL, rfl⟩
    rcases hL with rfl | ⟨s0_1, s1_1, hq⟩
    · go_wp2
      go_ret
      exact ⟨rfl, Below.refl _ _⟩
    · have hr1 : ¬ r1 < 0 := by omega
      have hn1 : xs1.length ≤ 1048576 := by omega
      clear hq
      have hB0 := Below.refl w.heap.size w
      have hA0_0 := hW0
      have hA1_0 := hW1
      obtain ⟨m, hm⟩ : ∃ m, l.length = m := ⟨_, rfl⟩
      rw [hm] at hlen
      have HM := Lib.hid hm
      clear hm
      go_wp2_with fail
      refine (toNumS_any A0 cap0 xs0 _ hA0_0 (by omega)).mono ?_; rintro e' w1 ⟨gC0_, rfl, hgC0_, hC0_1, hw1⟩
      have hA0_1 := hA0_0.next hw1
      have hA1_1 := hA1_0.next hw1
      have hB1 := bel_next hB0 hw1
      have hz1 := hw1.size
      go_wp2_with fail
      refine (toPlantS_any A1 cap1 xs1 _ hA1_1 (by omega)).mono ?_; rintro e' w2 ⟨gC1_, rfl, hgC1_, hC1_2, hw2⟩
      have hA0_2 := hA0_1.next hw2
      have hA1_2 := hA1_1.next hw2
      have hC0_2 := hC0_1.next hw2
      have hB2 := bel_next hB1 hw2
      have hz2 := hw2.size
      go_wp2_with fail
      refine (sPb_is _ _ _ _ xs0 xs1 _ rfl rfl hC0_2.row hC1_2.row (by omega) (by omega) HV.out).mono ?_; rintro e' w3 ⟨As, cs, rfl, hS3, hw3⟩
      have hA0_3 := hA0_2.next hw3
      have hA1_3 := hA1_2.next hw3
      have hC0_3 := hC0_2.next hw3
      have hC1_3 := hC1_2.next hw3
      have hB3 := bel_next hB2 hw3
      have hS3 := hS3.mono hB2.size
      rw [HM.out]
      have hz3 := hw3.size
      have hSlt : ∀ g, As = some ⟨g, 0, none⟩ → g < w3.heap.size := fun g hg => by rcases hS3.form with ⟨e, _⟩ | ⟨g1, e, _, h⟩; rw [e] at hg; cases hg; rw [e] at hg; cases hg; exact h
      go_wp2_with fail
      refine (toNumS_any A0 cap0 xs0 _ hA0_3 (by omega)).mono ?_; rintro e' w4 ⟨gD0_, rfl, hgD0_, hD0_4, hw4⟩
      have hA0_4 := hA0_3.next hw4
      have hA1_4 := hA1_3.next hw4
      have hS4 := hS3.next hw4
      have hB4 := bel_next hB3 hw4
      have hz4 := hw4.size
      have hDlt0 := hD0_4.lt
      go_wp2_with fail
      refine (toPlantS_any A1 cap1 xs1 _ hA1_4 (by omega)).mono ?_; rintro e' w5 ⟨gD1_, rfl, hgD1_, hD1_5, hw5⟩
      have hA0_5 := hA0_4.next hw5
      have hA1_5 := hA1_4.next hw5
      have hS5 := hS4.next hw5
      have hD0_5 := hD0_4.next hw5
      have hB5 := bel_next hB4 hw5
      have hz5 := hw5.size
      have hDlt1 := hD1_5.lt
      have zB0 := hB5.size
      go_wp2_with fail
      refine (iPb_is _ _ _ _ xs0 xs1 _ rfl rfl hD0_5.row hD1_5.row (by omega) (by omega) HV.out).mono ?_; rintro e' w6 ⟨Ai, ci, rfl, hI6, hw6⟩
      have hA0_6 := hA0_5.next hw6
      have hA1_6 := hA1_5.next hw6
      have hS6 := hS5.next hw6
      have hD0_6 := hD0_5.next hw6
      have hD1_6 := hD1_5.next hw6
      have hB6 := bel_next hB5 hw6
      rw [HM.out]
      have hz6 := hw6.size
      have hIge : ∀ g, Ai = some ⟨g, 0, none⟩ → w5.heap.size ≤ g := fun g hg => by rcases hI6.form with ⟨e, _⟩ | ⟨g1, e, h, _⟩; rw [e] at hg; cases hg; rw [e] at hg; cases hg; exact h
      go_wp2_with fail
      refine (eqNumS_same _ _ _ _ l HM.out hI6.row hS6.row (by omega)).mono ?_; rintro e' w7 ⟨rfl, hw7⟩
      have hA0_7 := hA0_6.next hw7
      have hA1_7 := hA1_6.next hw7
      have hS7 := hS6.next hw7
      have hD0_7 := hD0_6.next hw7
      have hD1_7 := hD1_6.next hw7
      have hI7 := hI6.next hw7
      have hB7 := bel_next hB6 hw7
      have hz7 := hw7.size
      go_wp2_with fail
      refine (toNumS_any A0 cap0 xs0 _ hA0_7 (by omega)).mono ?_; rintro e' w8 ⟨gE0_, rfl, hgE0_, hE0_8, hw8⟩
      have hA0_8 := hA0_7.next hw8
      have hA1_8 := hA1_7.next hw8
      have hS8 := hS7.next hw8
      have hD0_8 := hD0_7.next hw8
      have hD1_8 := hD1_7.next hw8
      have hI8 := hI7.next hw8
      have hB8 := bel_next hB7 hw8
      have hz8 := hw8.size
      go_wp2_with fail
      refine (eqNumS_same _ _ _ _ xs0 rfl hD0_8.row hE0_8.row (by omega)).mono ?_; rintro e' w9 ⟨rfl, hw9⟩
      have hA0_9 := hA0_8.next hw9
      have hA1_9 := hA1_8.next hw9
      have hS9 := hS8.next hw9
      have hD0_9 := hD0_8.next hw9
      have hD1_9 := hD1_8.next hw9
      have hI9 := hI8.next hw9
      have hE0_9 := hE0_8.next hw9
      have hB9 := bel_next hB8 hw9
      have hz9 := hw9.size
      go_wp2_with fail
      refine (toPlantS_any A1 cap1 xs1 _ hA1_9 (by omega)).mono ?_; rintro e' w10 ⟨gE1_, rfl, hgE1_, hE1_10, hw10⟩
      have hA0_10 := hA0_9.next hw10
      have hA1_10 := hA1_9.next hw10
      have hS10 := hS9.next hw10
      have hD0_10 := hD0_9.next hw10
      have hD1_10 := hD1_9.next hw10
      have hI10 := hI9.next hw10
      have hB10 := bel_next hB9 hw10
      have hz10 := hw10.size
      go_wp2_with fail
      refine (eqPlantS_same _ _ _ _ xs1 rfl hD1_10.row hE1_10.row (by omega)).mono ?_; rintro e' w11 ⟨rfl, hw11⟩
      have hA0_11 := hA0_10.next hw11
      have hA1_11 := hA1_10.next hw11
      have hS11 := hS10.next hw11
      have hD0_11 := hD0_10.next hw11
      have hD1_11 := hD1_10.next hw11
      have hI11 := hI10.next hw11
      have hE1_11 := hE1_10.next hw11
      have hB11 := bel_next hB10 hw11
      have hz11 := hw11.size
      go_wp2_with fail
      refine (markNumS_any w.heap.size _ _ xs0 1 rfl (SOwn.of_blk hD0_11 (by omega) rfl l0) (by omega) (by omega) (by omega)).mono ?_; rintro e' wM0 ⟨rfl, hDM, hG⟩
      have hB12 : Below w.heap.size w wM0 := hB11.grown hG hB11.size (fun j hj => by simp [Value.ownBlock] at hj; omega)
      have hI12 := hI11.grown_far hG (fun g hg e => by have := hIge g hg; simp [Value.ownBlock] at e; omega)
      have hS12 := hS11.grown_far hG (fun g hg e => by have := hSlt g hg; simp [Value.ownBlock] at e; omega)
      have hD1_12 := hD1_11.grown hG (by simp [Value.ownBlock]; omega)
      have hA0_12 := hW0.next hB12
      have hA1_12 := hW1.next hB12
      have hzM0 := hG.size
      clear hG hDM
      go_wp2_with fail
      refine (markPlantS_at w.heap.size _ _ xs1 (1 + xs0.length) rfl (by omega) (SOwn.of_blk hD1_12 (by omega) rfl l1) (by omega) (by omega) (by omega)).mono ?_; rintro e' wM1 ⟨rfl, hDM, hG⟩
      have hB13 : Below w.heap.size w wM1 := hB12.grown hG hB12.size (fun j hj => by simp [Value.ownBlock] at hj; omega)
      have hI13 := hI12.grown_far hG (fun g hg e => by have := hIge g hg; simp [Value.ownBlock] at e; omega)
      have hS13 := hS12.grown_far hG (fun g hg e => by have := hSlt g hg; simp [Value.ownBlock] at e; omega)
      have hA0_13 := hW0.next hB13
      have hA1_13 := hW1.next hB13
      have hzM1 := hG.size
      clear hG hDM
      have hk0 : ¬ (1 + (xs0.length : Int) + 2 * (xs1.length : Int)) < 0 := by omega
      go_wp2_with fail
      refine (eqNumS_same _ _ _ _ l HM.out hI13.row hS13.row (by omega)).mono ?_; rintro e' w14 ⟨rfl, hw14⟩
      have hA0_14 := hA0_13.next hw14
      have hA1_14 := hA1_13.next hw14
      have hS14 := hS13.next hw14
      have hI14 := hI13.next hw14
      have hB14 := bel_next hB13 hw14
      have hz14 := hw14.size
      go_wp2_with fail
      refine (markNumS_any w.heap.size _ _ l 1 HM.out (hI14.mono (by omega)) (by omega) (by omega) (by omega)).mono ?_; rintro e' wN ⟨rfl, hIN, hG⟩
      have hB15 : Below w.heap.size w wN := SOwn.below_grown (hI14.mono (by omega)) hB14 hG
      have hS15 := hS14.grown_far hG (fun g hg e => by have := hSlt g hg; rcases hI14.form with ⟨e2, _⟩ | ⟨g1, e2, h, _⟩; rw [e2] at e; simp [Value.ownBlock] at e; rw [e2] at e; simp [Value.ownBlock] at e; have := hIge g1 e2; omega)
      clear hG
      have hI15 := hIN
      have hA0_15 := hW0.next hB15
      have hA1_15 := hW1.next hB15
      go_wp2_with fail
      refine (heldNumS_any Ai ci 1 (m := m) hI15.row (by omega) (by omega) (by omega)).mono ?_; rintro e' w16 ⟨rfl, hw16⟩
      have hA0_16 := hA0_15.next hw16
      have hA1_16 := hA1_15.next hw16
      have hS16 := hS15.next hw16
      have hI16 := hI15.next hw16
      have hB16 := bel_next hB15 hw16
      have hk1 : ¬ (1 + (m : Int)) < 0 := by omega
      go_wp2_with fail
      refine (toNumS_any A0 cap0 xs0 _ hA0_16 (by omega)).mono ?_; rintro e' w17 ⟨gF0_, rfl, hgF0_, hF0_17, hw17⟩
      have hA0_17 := hA0_16.next hw17
      have hA1_17 := hA1_16.next hw17
      have hS17 := hS16.next hw17
      have hI17 := hI16.next hw17
      have hB17 := bel_next hB16 hw17
      go_wp2_with fail
      refine (toPlantS_any A1 cap1 xs1 _ hA1_17 (by omega)).mono ?_; rintro e' w18 ⟨gF1_, rfl, hgF1_, hF1_18, hw18⟩
      have hA0_18 := hA0_17.next hw18
      have hA1_18 := hA1_17.next hw18
      have hS18 := hS17.next hw18
      have hI18 := hI17.next hw18
      have hF0_18 := hF0_17.next hw18
      have hB18 := bel_next hB17 hw18
      go_wp2_with fail
      refine (iPb_is _ _ _ _ xs0 xs1 _ rfl rfl hF0_18.row hF1_18.row (by omega) (by omega) HV.out).mono ?_; rintro e' w19 ⟨Ah, ch, rfl, hH19, hw19⟩
      have hA0_19 := hA0_18.next hw19
      have hA1_19 := hA1_18.next hw19
      have hS19 := hS18.next hw19
      have hI19 := hI18.next hw19
      have hF0_19 := hF0_18.next hw19
      have hF1_19 := hF1_18.next hw19
      have hB19 := bel_next hB18 hw19
      rw [HM.out]
      go_wp2_with fail
      refine (eqNumS_same _ _ _ _ l HM.out hH19.row hS19.row (by omega)).mono ?_; rintro e' w20 ⟨rfl, hw20⟩
      have hA0_20 := hA0_19.next hw20
      have hA1_20 := hA1_19.next hw20
      have hS20 := hS19.next hw20
      have hI20 := hI19.next hw20
      have hF0_20 := hF0_19.next hw20
      have hF1_20 := hF1_19.next hw20
      have hH20 := hH19.next hw20
      have hB20 := bel_next hB19 hw20
      go_wp2_with fail
      refine (heldNumS_any Ai ci 1 (m := m) hI20.row (by omega) (by omega) (by omega)).mono ?_; rintro e' w21 ⟨rfl, hw21⟩
      have hA0_21 := hA0_20.next hw21
      have hA1_21 := hA1_20.next hw21
      have hS21 := hS20.next hw21
      have hI21 := hI20.next hw21
      have hF0_21 := hF0_20.next hw21
      have hF1_21 := hF1_20.next hw21
      have hH21 := hH20.next hw21
      have hB21 := bel_next hB20 hw21
      go_wp2
      go_ret
      exact ⟨rfl, by first | exact hB21 | exact hB21.drew⟩
  · have hi0 : (xs0.length : Int) > 1048576 := by omega
    clear hl
    go_enter Try.func3, Try.ntmps3
    go_wp2
    go_ret
    exact ⟨rfl, Below.refl _ _⟩

set_option maxRecDepth 100000 in
theorem lifted (os : Os) (started : os.Started) (H : Type) (enc : TypeId × Value → H) :
    ReturnsInHanded {} Try.checked os 3 .any (Rows.fnExactPlantBestSpec.pre6 enc Try.prog Try.f3 Rows.fnExactPlantBestRow.domain false) (Rows.fnExactPlantBestSpec.post enc Try.prog Try.f3 false true false false) := by
  refine returnsInHanded_of_change (C := Try.checked) own started (by kernel_rfl) Try.func3
    (ChangeSpec.witness6 (enc := enc) (C := Try.checked) false ⟨#[], #[.slice none 0 0, .slice none 0 0], []⟩ 8 (by kernel_rfl) (by kernel_rfl) (by kernel_rfl) (by kernel_rfl)) ?_
  intro W base args ds gs before hval0 hW hcnd _
  have hval : ∀ (j : Nat) t v, Try.f3.params[j]? = some t → args[j]? = some v → Value.okWide Try.prog W .any base t v := hval0
  have hW' := hW
  obtain ⟨p, q, hA0, hV, rfl, hfz, hnd⟩ := hW
  have hA : DataW.TrodAll enc Try.prog W 0 (fun _ => true) true Try.f3.params.toList args.toList ds p := hA0
  rw [Try.params3] at hA hval
  obtain ⟨v0, vs0, d0, ds0, p0, q0, hargs, rfl, rfl, h0, r0⟩ := trodAll_cons hA
  obtain ⟨v1, vs1, d1, ds1, p1, q1, rfl, rfl, rfl, h1, r1⟩ := trodAll_cons r0
  obtain ⟨rfl, rfl, rfl⟩ := trodAll_nil r1
  obtain rfl : args = #[v0, v1] := by cases args; simp_all
  obtain ⟨rfl, rfl⟩ := trodVars_none hV
  have k0 := h0
  have lt0 : ∀ x ∈ p0, x.block < W.heap.size := by obtain ⟨m, hm⟩ := k0; exact DataW.trod_lt m _ _ _ hm
  have k1 := h1
  have lt1 : ∀ x ∈ p1, x.block < W.heap.size := by obtain ⟨m, hm⟩ := k1; exact DataW.trod_lt m _ _ _ hm
  obtain ⟨A0, len0, cap0, rfl⟩ := okWide_slice Try.underlying22 (hval 0 22 v0 rfl rfl)
  obtain ⟨xs0, w0, l0, q0, hlen0⟩ : ∃ xs, SRow encNum W A0 xs ∧ xs.length ≤ maxLen ∧ (∀ v ∈ xs, Wf v) ∧ xs.length = len0 := by
    obtain ⟨fuel, hf⟩ := h0
    obtain ⟨A, cap, xs, hcs, hl, hr, hq⟩ := openNumS hf
    simp [Value.cells] at hcs
    obtain ⟨rfl, hn, rfl⟩ := hcs
    exact ⟨xs, hr, hl, hq, hn.symm⟩
  subst hlen0
  obtain ⟨A1, len1, cap1, rfl⟩ := okWide_slice Try.underlying23 (hval 1 23 v1 rfl rfl)
  obtain ⟨xs1, w1, l1, q1, hlen1⟩ : ∃ xs, SRow encPlant W A1 xs ∧ xs.length ≤ maxLen ∧ (∀ v ∈ xs, Wf v.1 ∧ Wf v.2) ∧ xs.length = len1 := by
    obtain ⟨fuel, hf⟩ := h1
    obtain ⟨A, cap, xs, hcs, hl, hr, hq⟩ := openPlantS hf
    simp [Value.cells] at hcs
    obtain ⟨rfl, hn, rfl⟩ := hcs
    exact ⟨xs, hr, hl, hq, hn.symm⟩
  subst hlen1
  clear hA0 hval0
  refine (walk W A0 cap0 xs0 w0 l0 q0 A1 cap1 xs1 w1 l1 q1).mono fun e W' ⟨he, bel⟩ => ?_
  subst he
  exact ⟨_, rfl, _, _, _, [], _, [], hW', trodAll_mk1 (shut_bool Try.underlying4 _), (trodAll_cons_mk (Below.trod laidOut (by kernel_rfl) (of_decide_eq_true (by kernel_rfl)) k0 bel lt0) (trodAll_cons_mk (Below.trod laidOut (by kernel_rfl) (of_decide_eq_true (by kernel_rfl)) k1 bel lt1) trodAll_mk0)), rfl, bel.frame _, fun h => by cases h⟩

theorem over : Rows.fnExactPlantBestRow.holds Try.pinned (OpenSpec.ofChange Rows.fnExactPlantBestSpec) :=
  OpenClaim.holds_of_wide 3 Try.f3 rfl rfl rfl rfl rfl rfl rfl ⟨rfl, rfl, rfl, rfl, rfl⟩ rfl rfl rfl rfl rfl (by kernel_rfl) Try.func3 (by kernel_rfl)
    (of_decide_eq_true (by kernel_rfl)) (by unfold Func.isWrapper; first | (rw [if_pos (by decide +kernel)]; kernel_rfl) | (rw [if_neg (by decide +kernel)]; exact ⟨rfl, rfl⟩))
    (fun os started H enc _ => lifted os started H enc)

/-- The statement. -/
theorem proved : Rows.FnExactPlantBestSaid :=
  over
#print axioms proved
end Go.Proofs.Ytighdgdgejenlaa.fnExactPlantBest
