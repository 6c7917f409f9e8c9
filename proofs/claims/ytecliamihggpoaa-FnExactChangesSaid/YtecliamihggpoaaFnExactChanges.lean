/- FnExactChanges: whatever the input, the law returns true, and its arguments read as they did. No conditions beyond those of the statement's row. -/
import Derived.Test.YtecliamihggpoaaBr
namespace Go.Proofs.Ytecliamihggpoaa.fnExactChanges
open Go.Proofs.Ytecliamihggpoaa
open Go.ChangeShapes Go.WideShapes Go.ChangeAt Go.RowKit Go.Joins
set_option linter.unusedVariables false
set_option linter.unusedSimpArgs false
set_option linter.unnecessarySimpa false

theorem own : ownKnob Try.prog.godebug = none := by kernel_rfl
theorem laidOut : laidOutB Try.prog = true := by kernel_rfl

set_option maxRecDepth 100000 in
set_option maxHeartbeats 4000000 in
theorem walk (w : World) (a0 : Bool) (A1 : Option Addr) (cap1 : Nat) (xs1 : List Bool) (w1 : SRow encBool w A1 xs1) (l1 : xs1.length ≤ maxLen) (q1 : ∀ v ∈ xs1, True) :
    Calls Try.prog 7 #[.bool a0, .slice A1 xs1.length cap1] w fun e w' => e = .returned (.bool true) ∧ Below w.heap.size w w' := by
  obtain ⟨v, hv⟩ : ∃ v, chR a0 xs1 = v := ⟨_, rfl⟩
  have HV := Lib.hid hv
  clear hv
  have hW1 := w1
  clear q1
  have l1' := l1
  unfold maxLen at l1'
  by_cases hl : xs1.length ≤ 1048576
  · have hi1 : ¬ (xs1.length : Int) > 1048576 := by omega
    have hn1 : xs1.length ≤ 1048576 := hl
    clear hl
    go_enter Try.func7, Try.ntmps7
    have hB0 := Below.refl w.heap.size w
    have hA1_0 := hW1
    go_wp2_with fail
    refine (toBoolS_any A1 cap1 xs1 _ hA1_0 (by omega)).mono ?_; rintro e' w1 ⟨gC1_, rfl, hgC1_, hC1_1, hw1⟩
    have hA1_1 := hA1_0.next hw1
    have hB1 := bel_next hB0 hw1
    go_wp2_with fail
    refine (sCh_is _ _ xs1 _ _ rfl hC1_1.row (by omega) HV.out).mono ?_; rintro e' w2 ⟨rfl, hw2⟩
    have hA1_2 := hA1_1.next hw2
    have hC1_2 := hC1_1.next hw2
    have hB2 := bel_next hB1 hw2
    go_wp2_with fail
    refine (toBoolS_any A1 cap1 xs1 _ hA1_2 (by omega)).mono ?_; rintro e' w3 ⟨gD1_, rfl, hgD1_, hD1_3, hw3⟩
    have hA1_3 := hA1_2.next hw3
    have hC1_3 := hC1_2.next hw3
    have hB3 := bel_next hB2 hw3
    go_wp2_with fail
    refine (iCh_is _ _ xs1 _ _ rfl hD1_3.row (by omega) HV.out).mono ?_; rintro e' w4 ⟨rfl, hw4⟩
    have hA1_4 := hA1_3.next hw4
    have hC1_4 := hC1_3.next hw4
    have hD1_4 := hD1_3.next hw4
    have hB4 := bel_next hB3 hw4
    go_wp2_with fail
    refine (toBoolS_any A1 cap1 xs1 _ hA1_4 (by omega)).mono ?_; rintro e' w5 ⟨gE1_, rfl, hgE1_, hE1_5, hw5⟩
    have hA1_5 := hA1_4.next hw5
    have hC1_5 := hC1_4.next hw5
    have hD1_5 := hD1_4.next hw5
    have hB5 := bel_next hB4 hw5
    go_wp2_with fail
    refine (eqBoolS_same _ _ _ _ xs1 rfl hD1_5.row hE1_5.row (by omega)).mono ?_; rintro e' w6 ⟨rfl, hw6⟩
    have hA1_6 := hA1_5.next hw6
    have hC1_6 := hC1_5.next hw6
    have hD1_6 := hD1_5.next hw6
    have hE1_6 := hE1_5.next hw6
    have hB6 := bel_next hB5 hw6
    go_wp2
    go_ret
    exact ⟨rfl, by first | exact hB6 | exact hB6.drew⟩
  · have hi1 : (xs1.length : Int) > 1048576 := by omega
    clear hl
    go_enter Try.func7, Try.ntmps7
    go_wp2
    go_ret
    exact ⟨rfl, Below.refl _ _⟩

set_option maxRecDepth 100000 in
theorem lifted (os : Os) (started : os.Started) (H : Type) (enc : TypeId × Value → H) :
    ReturnsInHanded {} Try.checked os 7 .any (Rows.fnExactChangesSpec.pre6 enc Try.prog Try.f7 Rows.fnExactChangesRow.domain false) (Rows.fnExactChangesSpec.post enc Try.prog Try.f7 false true false false) := by
  refine returnsInHanded_of_change (C := Try.checked) own started (by kernel_rfl) Try.func7
    (ChangeSpec.witness6 (enc := enc) (C := Try.checked) false ⟨#[], #[.bool false, .slice none 0 0], []⟩ 8 (by kernel_rfl) (by kernel_rfl) (by kernel_rfl) (by kernel_rfl)) ?_
  intro W base args ds gs before hval0 hW hcnd _
  have hval : ∀ (j : Nat) t v, Try.f7.params[j]? = some t → args[j]? = some v → Value.okWide Try.prog W .any base t v := hval0
  have hW' := hW
  obtain ⟨p, q, hA0, hV, rfl, hfz, hnd⟩ := hW
  have hA : DataW.TrodAll enc Try.prog W 0 (fun _ => true) true Try.f7.params.toList args.toList ds p := hA0
  rw [Try.params7] at hA hval
  obtain ⟨v0, vs0, d0, ds0, p0, q0, hargs, rfl, rfl, h0, r0⟩ := trodAll_cons hA
  obtain ⟨v1, vs1, d1, ds1, p1, q1, rfl, rfl, rfl, h1, r1⟩ := trodAll_cons r0
  obtain ⟨rfl, rfl, rfl⟩ := trodAll_nil r1
  obtain rfl : args = #[v0, v1] := by cases args; simp_all
  obtain ⟨rfl, rfl⟩ := trodVars_none hV
  have k0 := h0
  have lt0 : ∀ x ∈ p0, x.block < W.heap.size := by obtain ⟨m, hm⟩ := k0; exact DataW.trod_lt m _ _ _ hm
  have k1 := h1
  have lt1 : ∀ x ∈ p1, x.block < W.heap.size := by obtain ⟨m, hm⟩ := k1; exact DataW.trod_lt m _ _ _ hm
  obtain ⟨a0, rfl, rfl, rfl⟩ := open_bool Try.underlying4 (hval 0 4 v0 rfl rfl) h0
  obtain ⟨A1, len1, cap1, rfl⟩ := okWide_slice Try.underlying34 (hval 1 34 v1 rfl rfl)
  obtain ⟨xs1, w1, l1, q1, hlen1⟩ : ∃ xs, SRow encBool W A1 xs ∧ xs.length ≤ maxLen ∧ (∀ v ∈ xs, True) ∧ xs.length = len1 := by
    obtain ⟨fuel, hf⟩ := h1
    obtain ⟨A, cap, xs, hcs, hl, hr, hq⟩ := openBoolS hf
    simp [Value.cells] at hcs
    obtain ⟨rfl, hn, rfl⟩ := hcs
    exact ⟨xs, hr, hl, hq, hn.symm⟩
  subst hlen1
  clear hA0 hval0
  refine (walk W a0 A1 cap1 xs1 w1 l1 q1).mono fun e W' ⟨he, bel⟩ => ?_
  subst he
  exact ⟨_, rfl, _, _, _, [], _, [], hW', trodAll_mk1 (shut_bool Try.underlying4 _), (trodAll_cons_mk (Below.trod laidOut (by kernel_rfl) (of_decide_eq_true (by kernel_rfl)) k0 bel lt0) (trodAll_cons_mk (Below.trod laidOut (by kernel_rfl) (of_decide_eq_true (by kernel_rfl)) k1 bel lt1) trodAll_mk0)), rfl, bel.frame _, fun h => by cases h⟩

theorem over : Rows.fnExactChangesRow.holds Try.pinned (OpenSpec.ofChange Rows.fnExactChangesSpec) :=
  OpenClaim.holds_of_wide 7 Try.f7 rfl rfl rfl rfl rfl rfl rfl ⟨rfl, rfl, rfl, rfl, rfl⟩ rfl rfl rfl rfl rfl (by kernel_rfl) Try.func7 (by kernel_rfl)
    (of_decide_eq_true (by kernel_rfl)) (by unfold Func.isWrapper; first | (rw [if_pos (by decide +kernel)]; kernel_rfl) | (rw [if_neg (by decide +kernel)]; exact ⟨rfl, rfl⟩))
    (fun os started H enc _ => lifted os started H enc)

/-- The statement. -/
theorem proved : Rows.FnExactChangesSaid :=
  over
#print axioms proved
end Go.Proofs.Ytecliamihggpoaa.fnExactChanges
