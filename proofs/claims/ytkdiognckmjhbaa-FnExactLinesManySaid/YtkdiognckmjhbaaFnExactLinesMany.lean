/- FnExactLinesMany: whatever the input, the law returns true, and its arguments read as they did. No conditions beyond those of the statement's row. -/
import Derived.Test.YtkdiognckmjhbaaNh
namespace Go.Proofs.Ytkdiognckmjhbaa.fnExactLinesMany
open Go.Proofs.Ytkdiognckmjhbaa
open Go.ChangeShapes Go.WideShapes Go.ChangeAt Go.RowKit Go.Joins
set_option linter.unusedVariables false
set_option linter.unusedSimpArgs false
set_option linter.unnecessarySimpa false

theorem own : ownKnob Try.prog.godebug = none := by kernel_rfl
theorem laidOut : laidOutB Try.prog = true := by kernel_rfl

set_option maxRecDepth 100000 in
set_option maxHeartbeats 4000000 in
theorem walk (w : World) (A0 : Option Addr) (cap0 : Nat) (xs0 : List Int) (w0 : SRow encNum w A0 xs0) (l0 : xs0.length ≤ maxLen) (q0 : ∀ v ∈ xs0, Wf v) :
    Calls Try.prog 7 #[.slice A0 xs0.length cap0] w fun e w' => e = .returned (.bool true) ∧ Below w.heap.size w w' := by
  obtain ⟨v, hv⟩ : ∃ v, lmI xs0 = v := ⟨_, rfl⟩
  have HV := Lib.hid hv
  clear hv
  have hW0 := w0
  clear q0
  have l0' := l0
  unfold maxLen at l0'
  by_cases hl : xs0.length ≤ 1048576
  · have hi0 : ¬ (xs0.length : Int) > 1048576 := by omega
    have hn0 : xs0.length ≤ 1048576 := hl
    clear hl
    go_enter Try.func7, Try.ntmps7
    have hB0 := Below.refl w.heap.size w
    have hA0_0 := hW0
    go_wp2_with fail
    refine (toNumS_any A0 cap0 xs0 _ hA0_0 (by omega)).mono ?_; rintro e' w1 ⟨gC0_, rfl, hgC0_, hC0_1, hw1⟩
    have hA0_1 := hA0_0.next hw1
    have hB1 := bel_next hB0 hw1
    go_wp2_with fail
    refine (sLm_is _ _ xs0 _ rfl hC0_1.row (by omega) HV.out).mono ?_; rintro e' w2 ⟨rfl, hw2⟩
    have hA0_2 := hA0_1.next hw2
    have hC0_2 := hC0_1.next hw2
    have hB2 := bel_next hB1 hw2
    go_wp2_with fail
    refine (toNumS_any A0 cap0 xs0 _ hA0_2 (by omega)).mono ?_; rintro e' w3 ⟨gD0_, rfl, hgD0_, hD0_3, hw3⟩
    have hA0_3 := hA0_2.next hw3
    have hC0_3 := hC0_2.next hw3
    have hB3 := bel_next hB2 hw3
    go_wp2_with fail
    refine (iLm_is _ _ xs0 _ rfl hD0_3.row (by omega) HV.out).mono ?_; rintro e' w4 ⟨rfl, hw4⟩
    have hA0_4 := hA0_3.next hw4
    have hC0_4 := hC0_3.next hw4
    have hD0_4 := hD0_3.next hw4
    have hB4 := bel_next hB3 hw4
    go_wp2_with fail
    refine (toNumS_any A0 cap0 xs0 _ hA0_4 (by omega)).mono ?_; rintro e' w5 ⟨gE0_, rfl, hgE0_, hE0_5, hw5⟩
    have hA0_5 := hA0_4.next hw5
    have hC0_5 := hC0_4.next hw5
    have hD0_5 := hD0_4.next hw5
    have hB5 := bel_next hB4 hw5
    go_wp2_with fail
    refine (eqNumS_same _ _ _ _ xs0 rfl hD0_5.row hE0_5.row (by omega)).mono ?_; rintro e' w6 ⟨rfl, hw6⟩
    have hA0_6 := hA0_5.next hw6
    have hC0_6 := hC0_5.next hw6
    have hD0_6 := hD0_5.next hw6
    have hE0_6 := hE0_5.next hw6
    have hB6 := bel_next hB5 hw6
    go_wp2
    go_ret
    exact ⟨rfl, by first | exact hB6 | exact hB6.drew⟩
  · have hi0 : (xs0.length : Int) > 1048576 := by omega
    clear hl
    go_enter Try.func7, Try.ntmps7
    go_wp2
    go_ret
    exact ⟨rfl, Below.refl _ _⟩

set_option maxRecDepth 100000 in
theorem lifted (os : Os) (started : os.Started) (H : Type) (enc : TypeId × Value → H) :
    ReturnsInHanded {} Try.checked os 7 .any (Rows.fnExactLinesManySpec.pre6 enc Try.prog Try.f7 Rows.fnExactLinesManyRow.domain false) (Rows.fnExactLinesManySpec.post enc Try.prog Try.f7 false true false false) := by
  refine returnsInHanded_of_change (C := Try.checked) own started (by kernel_rfl) Try.func7
    (ChangeSpec.witness6 (enc := enc) (C := Try.checked) false ⟨#[], #[.slice none 0 0], []⟩ 8 (by kernel_rfl) (by kernel_rfl) (by kernel_rfl) (by kernel_rfl)) ?_
  intro W base args ds gs before hval0 hW hcnd _
  have hval : ∀ (j : Nat) t v, Try.f7.params[j]? = some t → args[j]? = some v → Value.okWide Try.prog W .any base t v := hval0
  have hW' := hW
  obtain ⟨p, q, hA0, hV, rfl, hfz, hnd⟩ := hW
  have hA : DataW.TrodAll enc Try.prog W 0 (fun _ => true) true Try.f7.params.toList args.toList ds p := hA0
  rw [Try.params7] at hA hval
  obtain ⟨v0, vs0, d0, ds0, p0, q0, hargs, rfl, rfl, h0, r0⟩ := trodAll_cons hA
  obtain ⟨rfl, rfl, rfl⟩ := trodAll_nil r0
  obtain rfl : args = #[v0] := by cases args; simp_all
  obtain ⟨rfl, rfl⟩ := trodVars_none hV
  have k0 := h0
  have lt0 : ∀ x ∈ p0, x.block < W.heap.size := by obtain ⟨m, hm⟩ := k0; exact DataW.trod_lt m _ _ _ hm
  obtain ⟨A0, len0, cap0, rfl⟩ := okWide_slice Try.underlying32 (hval 0 32 v0 rfl rfl)
  obtain ⟨xs0, w0, l0, q0, hlen0⟩ : ∃ xs, SRow encNum W A0 xs ∧ xs.length ≤ maxLen ∧ (∀ v ∈ xs, Wf v) ∧ xs.length = len0 := by
    obtain ⟨fuel, hf⟩ := h0
    obtain ⟨A, cap, xs, hcs, hl, hr, hq⟩ := openNumS hf
    simp [Value.cells] at hcs
    obtain ⟨rfl, hn, rfl⟩ := hcs
    exact ⟨xs, hr, hl, hq, hn.symm⟩
  subst hlen0
  clear hA0 hval0
  refine (walk W A0 cap0 xs0 w0 l0 q0).mono fun e W' ⟨he, bel⟩ => ?_
  subst he
  exact ⟨_, rfl, _, _, _, [], _, [], hW', trodAll_mk1 (shut_bool Try.underlying4 _), (trodAll_cons_mk (Below.trod laidOut (by kernel_rfl) (of_decide_eq_true (by kernel_rfl)) k0 bel lt0) trodAll_mk0), rfl, bel.frame _, fun h => by cases h⟩

theorem over : Rows.fnExactLinesManyRow.holds Try.pinned (OpenSpec.ofChange Rows.fnExactLinesManySpec) :=
  OpenClaim.holds_of_wide 7 Try.f7 rfl rfl rfl rfl rfl rfl rfl ⟨rfl, rfl, rfl, rfl, rfl⟩ rfl rfl rfl rfl rfl (by kernel_rfl) Try.func7 (by kernel_rfl)
    (of_decide_eq_true (by kernel_rfl)) (by unfold Func.isWrapper; first | (rw [if_pos (by decide +kernel)]; kernel_rfl) | (rw [if_neg (by decide +kernel)]; exact ⟨rfl, rfl⟩))
    (fun os started H enc _ => lifted os started H enc)

/-- The statement. -/
theorem proved : Rows.FnExactLinesManySaid :=
  over
#print axioms proved
end Go.Proofs.Ytkdiognckmjhbaa.fnExactLinesMany
