/- FnExactLineFirst: whatever the input, the law returns true, and its arguments read as they did. No conditions beyond those of the statement's row. -/
import Derived.Test.YtkdiognckmjhbaaNh
namespace Go.Proofs.Ytkdiognckmjhbaa.fnExactLineFirst
open Go.Proofs.Ytkdiognckmjhbaa
open Go.ChangeShapes Go.WideShapes Go.ChangeAt Go.RowKit Go.Joins
set_option linter.unusedVariables false
set_option linter.unusedSimpArgs false
set_option linter.unnecessarySimpa false

theorem own : ownKnob Try.prog.godebug = none := by kernel_rfl
theorem laidOut : laidOutB Try.prog = true := by kernel_rfl

set_option maxRecDepth 100000 in
set_option maxHeartbeats 4000000 in
theorem walk (w : World) (A0 : Option Addr) (cap0 : Nat) (xs0 : List Int) (w0 : SRow encNum w A0 xs0) (l0 : xs0.length ≤ maxLen) (q0 : ∀ v ∈ xs0, Wf v) :
    Calls Try.prog 8 #[.slice A0 xs0.length cap0] w fun e w' => e = .returned (.bool true) ∧ Below w.heap.size w w' := by
  obtain ⟨l, hl⟩ : ∃ l, lfL xs0 = l := ⟨_, rfl⟩
  have HV := Lib.hid hl
  obtain ⟨c9, hc9⟩ : ∃ c, lfB xs0 = c := ⟨_, rfl⟩
  have HV2 := Lib.hid hc9
  clear hc9
  clear hl 
  have hW0 := w0
  clear q0
  have l0' := l0
  unfold maxLen at l0'
  by_cases hl : xs0.length ≤ 1048576
  · have hi0 : ¬ (xs0.length : Int) > 1048576 := by omega
    have hn0 : xs0.length ≤ 1048576 := hl
    clear hl
    go_enter Try.func8, Try.ntmps8
    have hB0 := Below.refl w.heap.size w
    have hA0_0 := hW0
    have hlen : l.length ≤ 1048576 := by rw [← HV.out]; have := lfL_le xs0; omega
    obtain ⟨m, hm⟩ : ∃ m, l.length = m := ⟨_, rfl⟩
    rw [hm] at hlen
    have HM := Lib.hid hm
    clear hm
    go_wp2_with fail
    refine (toNumS_any A0 cap0 xs0 _ hA0_0 (by omega)).mono ?_; rintro e' w1 ⟨gC0_, rfl, hgC0_, hC0_1, hw1⟩
    have hA0_1 := hA0_0.next hw1
    have hB1 := bel_next hB0 hw1
    have hz1 := hw1.size
    go_wp2_with fail
    refine (sLf9_is _ _ xs0 _ rfl hC0_1.row (by omega) HV.out HV2.out).mono ?_; rintro e' w2 ⟨As, cs, rfl, hS2, hw2⟩
    have hA0_2 := hA0_1.next hw2
    have hC0_2 := hC0_1.next hw2
    have hB2 := bel_next hB1 hw2
    have hS2 := hS2.mono hB1.size
    rw [HM.out]
    have hz2 := hw2.size
    have hSlt : ∀ g, As = some ⟨g, 0, none⟩ → g < w2.heap.size := fun g hg => by rcases hS2.form with ⟨e, _⟩ | ⟨g1, e, _, h⟩; rw [e] at hg; cases hg; rw [e] at hg; cases hg; exact h
    go_wp2_with fail
    refine (toNumS_any A0 cap0 xs0 _ hA0_2 (by omega)).mono ?_; rintro e' w3 ⟨gD0_, rfl, hgD0_, hD0_3, hw3⟩
    have hA0_3 := hA0_2.next hw3
    have hS3 := hS2.next hw3
    have hB3 := bel_next hB2 hw3
    have hz3 := hw3.size
    have hDlt0 := hD0_3.lt
    have zB0 := hB3.size
    go_wp2_with fail
    refine (iLf9_is _ _ xs0 _ rfl hD0_3.row (by omega) HV.out HV2.out).mono ?_; rintro e' w4 ⟨Ai, ci, rfl, hI4, hw4⟩
    have hA0_4 := hA0_3.next hw4
    have hS4 := hS3.next hw4
    have hD0_4 := hD0_3.next hw4
    have hB4 := bel_next hB3 hw4
    rw [HM.out]
    have hz4 := hw4.size
    have hIge : ∀ g, Ai = some ⟨g, 0, none⟩ → w3.heap.size ≤ g := fun g hg => by rcases hI4.form with ⟨e, _⟩ | ⟨g1, e, h, _⟩; rw [e] at hg; cases hg; rw [e] at hg; cases hg; exact h
    go_wp2_with fail
    refine (eqNumS_same _ _ _ _ l HM.out hI4.row hS4.row (by omega)).mono ?_; rintro e' w5 ⟨rfl, hw5⟩
    have hA0_5 := hA0_4.next hw5
    have hS5 := hS4.next hw5
    have hD0_5 := hD0_4.next hw5
    have hI5 := hI4.next hw5
    have hB5 := bel_next hB4 hw5
    have hz5 := hw5.size
    go_wp2_with fail
    refine (toNumS_any A0 cap0 xs0 _ hA0_5 (by omega)).mono ?_; rintro e' w6 ⟨gE0_, rfl, hgE0_, hE0_6, hw6⟩
    have hA0_6 := hA0_5.next hw6
    have hS6 := hS5.next hw6
    have hD0_6 := hD0_5.next hw6
    have hI6 := hI5.next hw6
    have hB6 := bel_next hB5 hw6
    have hz6 := hw6.size
    go_wp2_with fail
    refine (eqNumS_same _ _ _ _ xs0 rfl hD0_6.row hE0_6.row (by omega)).mono ?_; rintro e' w7 ⟨rfl, hw7⟩
    have hA0_7 := hA0_6.next hw7
    have hS7 := hS6.next hw7
    have hD0_7 := hD0_6.next hw7
    have hI7 := hI6.next hw7
    have hE0_7 := hE0_6.next hw7
    have hB7 := bel_next hB6 hw7
    have hz7 := hw7.size
    go_wp2_with fail
    refine (markNumS_any w.heap.size _ _ xs0 1 rfl (SOwn.of_blk hD0_7 (by omega) rfl l0) (by omega) (by omega) (by omega)).mono ?_; rintro e' wM0 ⟨rfl, hDM, hG⟩
    have hB8 : Below w.heap.size w wM0 := hB7.grown hG hB7.size (fun j hj => by simp [Value.ownBlock] at hj; omega)
    have hI8 := hI7.grown_far hG (fun g hg e => by have := hIge g hg; simp [Value.ownBlock] at e; omega)
    have hS8 := hS7.grown_far hG (fun g hg e => by have := hSlt g hg; simp [Value.ownBlock] at e; omega)
    have hA0_8 := hW0.next hB8
    have hzM0 := hG.size
    clear hG hDM
    have hk0 : ¬ (1 + (xs0.length : Int)) < 0 := by omega
    go_wp2_with fail
    refine (eqNumS_same _ _ _ _ l HM.out hI8.row hS8.row (by omega)).mono ?_; rintro e' w9 ⟨rfl, hw9⟩
    have hA0_9 := hA0_8.next hw9
    have hS9 := hS8.next hw9
    have hI9 := hI8.next hw9
    have hB9 := bel_next hB8 hw9
    have hz9 := hw9.size
    go_wp2_with fail
    refine (markNumS_any w.heap.size _ _ l 1 HM.out (hI9.mono (by omega)) (by omega) (by omega) (by omega)).mono ?_; rintro e' wN ⟨rfl, hIN, hG⟩
    have hB10 : Below w.heap.size w wN := SOwn.below_grown (hI9.mono (by omega)) hB9 hG
    have hS10 := hS9.grown_far hG (fun g hg e => by have := hSlt g hg; rcases hI9.form with ⟨e2, _⟩ | ⟨g1, e2, h, _⟩; rw [e2] at e; simp [Value.ownBlock] at e; rw [e2] at e; simp [Value.ownBlock] at e; have := hIge g1 e2; omega)
    clear hG
    have hI10 := hIN
    have hA0_10 := hW0.next hB10
    go_wp2_with fail
    refine (heldNumS_any Ai ci 1 (m := m) hI10.row (by omega) (by omega) (by omega)).mono ?_; rintro e' w11 ⟨rfl, hw11⟩
    have hA0_11 := hA0_10.next hw11
    have hS11 := hS10.next hw11
    have hI11 := hI10.next hw11
    have hB11 := bel_next hB10 hw11
    have hk1 : ¬ (1 + (m : Int)) < 0 := by omega
    go_wp2_with fail
    refine (toNumS_any A0 cap0 xs0 _ hA0_11 (by omega)).mono ?_; rintro e' w12 ⟨gF0_, rfl, hgF0_, hF0_12, hw12⟩
    have hA0_12 := hA0_11.next hw12
    have hS12 := hS11.next hw12
    have hI12 := hI11.next hw12
    have hB12 := bel_next hB11 hw12
    go_wp2_with fail
    refine (iLf9_is _ _ xs0 _ rfl hF0_12.row (by omega) HV.out HV2.out).mono ?_; rintro e' w13 ⟨Ah, ch, rfl, hH13, hw13⟩
    have hA0_13 := hA0_12.next hw13
    have hS13 := hS12.next hw13
    have hI13 := hI12.next hw13
    have hF0_13 := hF0_12.next hw13
    have hB13 := bel_next hB12 hw13
    rw [HM.out]
    go_wp2_with fail
    refine (eqNumS_same _ _ _ _ l HM.out hH13.row hS13.row (by omega)).mono ?_; rintro e' w14 ⟨rfl, hw14⟩
    have hA0_14 := hA0_13.next hw14
    have hS14 := hS13.next hw14
    have hI14 := hI13.next hw14
    have hF0_14 := hF0_13.next hw14
    have hH14 := hH13.next hw14
    have hB14 := bel_next hB13 hw14
    go_wp2_with fail
    refine (heldNumS_any Ai ci 1 (m := m) hI14.row (by omega) (by omega) (by omega)).mono ?_; rintro e' w15 ⟨rfl, hw15⟩
    have hA0_15 := hA0_14.next hw15
    have hS15 := hS14.next hw15
    have hI15 := hI14.next hw15
    have hF0_15 := hF0_14.next hw15
    have hH15 := hH14.next hw15
    have hB15 := bel_next hB14 hw15
    go_wp2
    go_ret
    exact ⟨rfl, by first | exact hB15 | exact hB15.drew⟩
  · have hi0 : (xs0.length : Int) > 1048576 := by omega
    clear hl
    go_enter Try.func8, Try.ntmps8
    go_wp2
    go_ret
    exact ⟨rfl, Below.refl _ _⟩

set_option maxRecDepth 100000 in
theorem lifted (os : Os) (started : os.Started) (H : Type) (enc : TypeId × Value → H) :
    ReturnsInHanded {} Try.checked os 8 .any (Rows.fnExactLineFirstSpec.pre6 enc Try.prog Try.f8 Rows.fnExactLineFirstRow.domain false) (Rows.fnExactLineFirstSpec.post enc Try.prog Try.f8 false true false false) := by
  refine returnsInHanded_of_change (C := Try.checked) own started (by kernel_rfl) Try.func8
    (ChangeSpec.witness6 (enc := enc) (C := Try.checked) false ⟨#[], #[.slice none 0 0], []⟩ 8 (by kernel_rfl) (by kernel_rfl) (by kernel_rfl) (by kernel_rfl)) ?_
  intro W base args ds gs before hval0 hW hcnd _
  have hval : ∀ (j : Nat) t v, Try.f8.params[j]? = some t → args[j]? = some v → Value.okWide Try.prog W .any base t v := hval0
  have hW' := hW
  obtain ⟨p, q, hA0, hV, rfl, hfz, hnd⟩ := hW
  have hA : DataW.TrodAll enc Try.prog W 0 (fun _ => true) true Try.f8.params.toList args.toList ds p := hA0
  rw [Try.params8] at hA hval
  obtain ⟨v0, vs0, d0, ds0, p0, q0, hargs, rfl, rfl, h0, r0⟩ := trodAll_cons hA
  obtain ⟨rfl, rfl, rfl⟩ := trodAll_nil r0
  obtain rfl : args = #[v0] := by cases args; simp_all
  obtain ⟨rfl, rfl⟩ := trodVars_none hV
  have k0 := h0
  have lt0 : ∀ x ∈ p0, x.block < W.heap.size := by obtain ⟨m, hm⟩ := k0; exact DataW.trod_lt m _ _ _ hm
  obtain ⟨A0, len0, cap0, rfl⟩ := okWide_slice Try.underlying32 (hval 0 32 v0 rfl rfl)
  obtain ⟨xs0, w0, l0, q0, hlen0⟩ : ∃ xs, SRow encNum W A0 xs ∧ xs.length ≤ maxLen ∧ (∀ v ∈ xs, Wf v) ∧ xs.length = len0 := by
    obtain ⟨fuel, hf⟩ := h0
    obtain ⟨A, cap, xs, hcs, hl, hr, hq⟩ := openNumS hf
    simp [Value.cells] at hcs
    obtain ⟨rfl, hn, rfl⟩ := hcs
    exact ⟨xs, hr, hl, hq, hn.symm⟩
  subst hlen0
  clear hA0 hval0
  refine (walk W A0 cap0 xs0 w0 l0 q0).mono fun e W' ⟨he, bel⟩ => ?_
  subst he
  exact ⟨_, rfl, _, _, _, [], _, [], hW', trodAll_mk1 (shut_bool Try.underlying4 _), (trodAll_cons_mk (Below.trod laidOut (by kernel_rfl) (of_decide_eq_true (by kernel_rfl)) k0 bel lt0) trodAll_mk0), rfl, bel.frame _, fun h => by cases h⟩

theorem over : Rows.fnExactLineFirstRow.holds Try.pinned (OpenSpec.ofChange Rows.fnExactLineFirstSpec) :=
  OpenClaim.holds_of_wide 8 Try.f8 rfl rfl rfl rfl rfl rfl rfl ⟨rfl, rfl, rfl, rfl, rfl⟩ rfl rfl rfl rfl rfl (by kernel_rfl) Try.func8 (by kernel_rfl)
    (of_decide_eq_true (by kernel_rfl)) (by unfold Func.isWrapper; first | (rw [if_pos (by decide +kernel)]; kernel_rfl) | (rw [if_neg (by decide +kernel)]; exact ⟨rfl, rfl⟩))
    (fun os started H enc _ => lifted os started H enc)

/-- The statement. -/
theorem proved : Rows.FnExactLineFirstSaid :=
  over
#print axioms proved
end Go.Proofs.Ytkdiognckmjhbaa.fnExactLineFirst
