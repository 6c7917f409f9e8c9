/- FnExactWaysValid: whatever the input, the law returns true, and its arguments read as they did. No conditions beyond those of the statement's row. -/
import Derived.Test.YtdinlgfkilmfeabWs
import Derived.Test.YtdinlgfkilmfeabWl
import Derived.Test.YtdinlgfkilmfeabOpn
namespace Go.Proofs.Ytdinlgfkilmfeab.fnExactWaysValid
open Go.Proofs.Ytdinlgfkilmfeab
open Go.ChangeShapes Go.WideShapes Go.ChangeAt Go.RowKit Go.Joins
set_option linter.unusedVariables false
set_option linter.unusedSimpArgs false
set_option linter.unnecessarySimpa false

theorem own : ownKnob Try.prog.godebug = none := by kernel_rfl
theorem laidOut : laidOutB Try.prog = true := by kernel_rfl
theorem cells0 : Try.prog.cellsOf 23 = 2 := by kernel_rfl
set_option maxRecDepth 100000 in
set_option maxHeartbeats 4000000 in
theorem walk (w : World) (A0 : Option Addr) (cap0 : Nat) (xs0 : List (Int × Int)) (w0 : WRow w A0 xs0) (l0 : xs0.length ≤ maxLen) :
    Calls Try.prog 5 #[.slice A0 xs0.length cap0] w fun e w' => e = .returned (.bool true) ∧ Below w.heap.size w w' := by
  have l0' := l0
  unfold maxLen at l0'
  by_cases hl : xs0.length ≤ 1048576
  · cases hb : wsB xs0
    all_goals
      have W0 := w0
      have HX := Lib.hid hl
      go_enter Try.func5, Try.ntmps5
      go_wp2_with fail
      refine (szWayS_t _ _ _ _ HX.out).mono ?_; rintro e w' ⟨rfl, rfl⟩
      go_wp2_with fail
      refine (toWayS_any _ _ _ _ W0 (by omega)).mono ?_; rintro e w1 ⟨g1, rfl, hg1, hb1, hB1⟩
      go_wp2_with fail
      refine (sWsV_any _ _ _ _ hb1.row (by omega)).mono ?_; rintro e w2 ⟨rfl, hw2⟩
      have hB2 := bel_next hB1 hw2
      go_wp2_with fail
      refine (toWayS_any _ _ _ _ (W0.next hB2) (by omega)).mono ?_; rintro e w3 ⟨g3, rfl, hg3, hb3, hw3⟩
      have hB3 := bel_next hB2 hw3
      go_wp2_with fail
      refine (iWsV_any _ _ _ _ hb3.row (by omega)).mono ?_; rintro e w4 ⟨rfl, hw4⟩
      have hb4 := hb3.next hw4
      have hB4 := bel_next hB3 hw4
      go_wp2_with fail
      refine (toWayS_any _ _ _ _ (W0.next hB4) (by omega)).mono ?_; rintro e w5 ⟨g5, rfl, hg5, hb5, hw5⟩
      have hB5 := bel_next hB4 hw5
      go_wp2_with fail
      refine (eqWayS_same _ _ _ _ _ _ (hb4.next hw5).row hb5.row (by omega)).mono ?_; rintro e w6 ⟨rfl, hw6⟩
      go_wp2
      go_ret
      exact ⟨rfl, bel_next hB5 hw6⟩
  · have HX := Lib.hid hl
    have HL := Lib.hid l0'
    clear hl
    go_enter Try.func5, Try.ntmps5
    go_wp2_with fail
    refine (szWayS_f _ _ _ _ HX.out HL.out).mono ?_; rintro e w' ⟨rfl, rfl⟩
    go_wp2
    go_ret
    exact ⟨rfl, Below.refl _ _⟩

set_option maxRecDepth 100000 in
theorem lifted (os : Os) (started : os.Started) (H : Type) (enc : TypeId × Value → H) :
    ReturnsInHanded {} Try.checked os 5 .any (Rows.fnExactWaysValidSpec.pre6 enc Try.prog Try.f5 Rows.fnExactWaysValidRow.domain false) (Rows.fnExactWaysValidSpec.post enc Try.prog Try.f5 false true false false) := by
  refine returnsInHanded_of_change (C := Try.checked) own started (by kernel_rfl) Try.func5
    (ChangeSpec.witness6 (enc := enc) (C := Try.checked) false ⟨#[], #[.slice none 0 0], []⟩ 8 (by kernel_rfl) (by kernel_rfl) (by kernel_rfl) (by kernel_rfl)) ?_
  intro W base args ds gs before hval0 hW hcnd _
  have hval : ∀ (j : Nat) t v, Try.f5.params[j]? = some t → args[j]? = some v → Value.okWide Try.prog W .any base t v := hval0
  have hW' := hW
  obtain ⟨p, q, hA0, hV, rfl, hfz, hnd⟩ := hW
  have hA : DataW.TrodAll enc Try.prog W 0 (fun _ => true) true Try.f5.params.toList args.toList ds p := hA0
  rw [Try.params5] at hA hval
  obtain ⟨v0, vs0, d0, ds0, p0, q0, hargs, rfl, rfl, h0, r0⟩ := trodAll_cons hA
  obtain ⟨rfl, rfl, rfl⟩ := trodAll_nil r0
  obtain rfl : args = #[v0] := by cases args; simp_all
  obtain ⟨rfl, rfl⟩ := trodVars_none hV
  have k0 := h0
  have lt0 : ∀ x ∈ p0, x.block < W.heap.size := by obtain ⟨m, hm⟩ := k0; exact DataW.trod_lt m _ _ _ hm
  obtain ⟨A0, len0, cap0, rfl⟩ := okWide_slice Try.underlying28 (hval 0 28 v0 rfl rfl)
  obtain ⟨xs0, w0, l0, hlen0⟩ : ∃ xs, WRow W A0 xs ∧ xs.length ≤ maxLen ∧ xs.length = len0 := by
    obtain ⟨fuel, hf⟩ := h0
    obtain ⟨A, cap, xs, hcs, hl, hr⟩ := open_pairs Try.underlying28 Try.underlying23 (by kernel_rfl) cells0 Try.underlying3 Try.underlying3 hf
    simp [Value.cells] at hcs
    obtain ⟨rfl, hn, rfl⟩ := hcs
    exact ⟨xs, hr, hl, hn.symm⟩
  subst hlen0
  clear hA0 hval0
  refine (walk W A0 cap0 xs0 w0 l0).mono fun e W' ⟨he, bel⟩ => ?_
  subst he
  exact ⟨_, rfl, _, _, _, [], _, [], hW', trodAll_mk1 (shut_bool Try.underlying4 _), (trodAll_cons_mk (Below.trod laidOut (by kernel_rfl) (of_decide_eq_true (by kernel_rfl)) k0 bel lt0) trodAll_mk0), rfl, bel.frame _, fun h => by cases h⟩

theorem over : Rows.fnExactWaysValidRow.holds Try.pinned (OpenSpec.ofChange Rows.fnExactWaysValidSpec) :=
  OpenClaim.holds_of_wide 5 Try.f5 rfl rfl rfl rfl rfl rfl rfl ⟨rfl, rfl, rfl, rfl, rfl⟩ rfl rfl rfl rfl rfl (by kernel_rfl) Try.func5 (by kernel_rfl)
    (of_decide_eq_true (by kernel_rfl)) (by unfold Func.isWrapper; first | (rw [if_pos (by decide +kernel)]; kernel_rfl) | (rw [if_neg (by decide +kernel)]; exact ⟨rfl, rfl⟩))
    (fun os started H enc _ => lifted os started H enc)

/-- The statement. -/
theorem proved : Rows.FnExactWaysValidSaid :=
  over
#print axioms proved
end Go.Proofs.Ytdinlgfkilmfeab.fnExactWaysValid
