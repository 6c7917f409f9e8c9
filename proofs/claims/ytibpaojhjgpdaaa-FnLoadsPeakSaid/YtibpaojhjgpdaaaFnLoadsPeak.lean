/- FnLoadsPeak: whatever the input, the law returns true, and its arguments read as they did. No conditions beyond those of the statement's row. -/
import Derived.Test.YtibpaojhjgpdaaaZ9
import Derived.Test.YtibpaojhjgpdaaaLc
import Derived.Test.YtibpaojhjgpdaaaZb
import Derived.Test.YtibpaojhjgpdaaaZp
import Derived.Test.YtibpaojhjgpdaaaLp
namespace Go.Proofs.Ytibpaojhjgpdaaa.fnLoadsPeak
open Go.Proofs.Ytibpaojhjgpdaaa
open Go.ChangeShapes Go.WideShapes Go.ChangeAt Go.RowKit Go.Joins
set_option linter.unusedVariables false
set_option linter.unusedSimpArgs false
set_option linter.unnecessarySimpa false

theorem own : ownKnob Try.prog.godebug = none := by kernel_rfl
theorem laidOut : laidOutB Try.prog = true := by kernel_rfl

set_option maxRecDepth 100000 in
set_option maxHeartbeats 4000000 in
theorem walk (w : World) (a0 : Option Addr) (len0 cap0 : Nat) (w0 : CodeOk w a0 len0 cap0) :
    Calls Try.prog 7 #[.slice a0 len0 cap0] w fun e w' => e = .returned (.bool true) ∧ Below w.heap.size w w' := by
  by_cases hl : 1048576 < len0
  · have w0' := w0.2.1
    unfold maxLen at w0'
    clear w0
    go_enter Try.func7, Try.ntmps7
    go_wp2
    go_ret
    exact ⟨rfl, Below.refl _ _⟩
  · have w0' := w0.2.1
    unfold maxLen at w0'
    have hle := w0.1
    have HW := Lib.hid w0
    clear w0
    go_enter Try.func7, Try.ntmps7
    go_wp2_with fail
    refine (drLoadsPeak_any _ _ _ _ HW.out).mono ?_; rintro e w1 ⟨xs, A, cp, hs, U, cu, rfl, hx8, hh8, hO1, hU1, hB1⟩
    obtain ⟨m, hm⟩ : ∃ m, xs.length = m := ⟨_, rfl⟩
    obtain ⟨q, hq⟩ : ∃ q, hs.length = q := ⟨_, rfl⟩
    rw [hm] at hx8 ⊢
    rw [hq] at hh8 ⊢
    have HM := Lib.hid hm
    have HQ := Lib.hid hq
    clear hm hq
    obtain ⟨r, hr⟩ : ∃ r, lpI xs hs = r := ⟨_, rfl⟩
    have hlw := lp_law (xs := xs) (hs := hs)
    rw [hr] at hlw
    have HR := Lib.hid hr
    clear hr
    obtain ⟨v, hv⟩ : ∃ v, lbI xs = v := ⟨_, rfl⟩
    rw [hv] at hlw
    have HV := Lib.hid hv
    clear hv
    go_wp2_with fail
    refine (iLp_is A U cp cu xs hs _ HM.out hO1.row (by omega) HQ.out hU1.row (by omega) HR.out).mono ?_; rintro e w2 ⟨rfl, hw2⟩
    have hO2 := hO1.next hw2
    have hU2 := hU1.next hw2
    have hB2 := bel_next hB1 hw2
    go_wp2_with fail
    refine (sLp_is A U cp cu xs hs _ HM.out hO2.row (by omega) HQ.out hU2.row (by omega) HR.out).mono ?_; rintro e w3 ⟨rfl, hw3⟩
    have hO3 := hO2.next hw3
    have hU3 := hU2.next hw3
    have hB3 := bel_next hB2 hw3
    rcases hlw with rfl | ⟨r0, v0, vr⟩
    · go_wp2_with fail
      refine (alive_any _).mono ?_; rintro e w' ⟨rfl, rfl⟩
      go_wp2
      go_ret
      exact ⟨rfl, hB3⟩
    · go_wp2_with fail
      refine (iLl9_is A cp xs _ HM.out hO3.row (by omega) HV.out).mono ?_; rintro e w4 ⟨rfl, hw4⟩
      have hO4 := hO3.next hw4
      have hU4 := hU3.next hw4
      have hB4 := bel_next hB3 hw4
      go_wp2_with fail
      refine (iLb_is A cp xs _ HM.out hO4.row (by omega) HV.out).mono ?_; rintro e w5 ⟨rfl, hw5⟩
      have hO5 := hO4.next hw5
      have hU5 := hU4.next hw5
      have hB5 := bel_next hB4 hw5
      go_wp2
      go_ret
      exact ⟨rfl, hB5⟩

set_option maxRecDepth 100000 in
theorem lifted (os : Os) (started : os.Started) (H : Type) (enc : TypeId × Value → H) :
    ReturnsInHanded {} Try.checked os 7 .any (Rows.fnLoadsPeakSpec.pre6 enc Try.prog Try.f7 Rows.fnLoadsPeakRow.domain false) (Rows.fnLoadsPeakSpec.post enc Try.prog Try.f7 false true false false) := by
  refine returnsInHanded_of_change (C := Try.checked) own started (by kernel_rfl) Try.func7
    (ChangeSpec.witness6 (enc := enc) (C := Try.checked) false ⟨#[], #[.slice none 0 0], []⟩ 8 (by kernel_rfl) (by kernel_rfl) (by kernel_rfl) (by kernel_rfl)) ?_
  intro W base args ds gs before hval0 hW hcnd _
  have hval : ∀ (j : Nat) t v, Try.f7.params[j]? = some t → args[j]? = some v → Value.okWide Try.prog W .any base t v := hval0
  have hW' := hW
  obtain ⟨p, q, hA0, hV, rfl, hfz, hnd⟩ := hW
  have hA : DataW.TrodAll enc Try.prog W 0 (fun _ => true) true Try.f7.params.toList args.toList ds p := hA0
  rw [Try.params7] at hA hval
  obtain ⟨v0, vs0, d0, ds0, p0, q0, hargs, rfl, rfl, h0, r0⟩ := trodAll_cons hA
  obtain ⟨rfl, rfl, rfl⟩ := trodAll_nil r0
  obtain rfl : args = #[v0] := by cases args; simp_all
  obtain ⟨rfl, rfl⟩ := trodVars_none hV
  have k0 := h0
  have lt0 : ∀ x ∈ p0, x.block < W.heap.size := by obtain ⟨m, hm⟩ := k0; exact DataW.trod_lt m _ _ _ hm
  obtain ⟨a0, len0, cap0, rfl⟩ := okWide_slice Try.underlying22 (hval 0 22 v0 rfl rfl)
  have w0 : CodeOk W a0 len0 cap0 := by
    obtain ⟨fuel, hf⟩ := h0
    rcases open_ints Try.underlying22 Try.underlying5 (by kernel_rfl) hf with ⟨hcs, _⟩ | ⟨x, l, c, zs, hcs, _, hl, hm, hz, _, hcell, hwz⟩
    · simp [Value.cells] at hcs
      obtain ⟨rfl, rfl, rfl⟩ := hcs
      exact code_nil W
    · simp [Value.cells] at hcs
      obtain ⟨rfl, rfl, rfl⟩ := hcs
      exact code_ok hl hm (by simp at hz; omega) hcell hwz
  clear hA0 hval0
  refine (walk W a0 len0 cap0 w0).mono fun e W' ⟨he, bel⟩ => ?_
  subst he
  exact ⟨_, rfl, _, _, _, [], _, [], hW', trodAll_mk1 (shut_bool Try.underlying4 _), (trodAll_cons_mk (Below.trod laidOut (by kernel_rfl) (of_decide_eq_true (by kernel_rfl)) k0 bel lt0) trodAll_mk0), rfl, bel.frame _, fun h => by cases h⟩

theorem over : Rows.fnLoadsPeakRow.holds Try.pinned (OpenSpec.ofChange Rows.fnLoadsPeakSpec) :=
  OpenClaim.holds_of_wide 7 Try.f7 rfl rfl rfl rfl rfl rfl rfl ⟨rfl, rfl, rfl, rfl, rfl⟩ rfl rfl rfl rfl rfl (by kernel_rfl) Try.func7 (by kernel_rfl)
    (of_decide_eq_true (by kernel_rfl)) (by unfold Func.isWrapper; first | (rw [if_pos (by decide +kernel)]; kernel_rfl) | (rw [if_neg (by decide +kernel)]; exact ⟨rfl, rfl⟩))
    (fun os started H enc _ => lifted os started H enc)

/-- The statement. -/
theorem proved : Rows.FnLoadsPeakSaid :=
  over
#print axioms proved
end Go.Proofs.Ytibpaojhjgpdaaa.fnLoadsPeak
