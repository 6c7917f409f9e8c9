/- FnRowSum: whatever the input, the law returns true, and its arguments read as they did. No conditions beyond those of the statement's row. -/
import Derived.Test.YtfgaggdiepielaaZ4
import Derived.Test.YtfgaggdiepielaaZt
import Derived.Test.YtfgaggdiepielaaZq
import Derived.Test.YtfgaggdiepielaaZ1
import Derived.Test.YtfgaggdiepielaaLp
namespace Go.Proofs.Ytfgaggdiepielaa.fnRowSum
open Go.Proofs.Ytfgaggdiepielaa
open Go.ChangeShapes Go.WideShapes Go.ChangeAt Go.RowKit Go.Joins
set_option linter.unusedVariables false
set_option linter.unusedSimpArgs false
set_option linter.unnecessarySimpa false

theorem own : ownKnob Try.prog.godebug = none := by kernel_rfl
theorem laidOut : laidOutB Try.prog = true := by kernel_rfl

set_option maxRecDepth 100000 in
set_option maxHeartbeats 4000000 in
theorem walk (w : World) (a0 : Option Addr) (len0 cap0 : Nat) (w0 : CodeOk w a0 len0 cap0) :
    Calls Try.prog 8 #[.slice a0 len0 cap0] w fun e w' => e = .returned (.bool true) ∧ Below w.heap.size w w' := by
  by_cases hl : 1048576 < len0
  · have w0' := w0.2.1
    unfold maxLen at w0'
    clear w0
    go_enter Try.func8, Try.ntmps8
    go_wp2
    go_ret
    exact ⟨rfl, Below.refl _ _⟩
  · have w0' := w0.2.1
    unfold maxLen at w0'
    have hle := w0.1
    have HW := Lib.hid w0
    clear w0
    go_enter Try.func8, Try.ntmps8
    go_wp2_with fail
    refine (drRowSum_any _ _ _ _ HW.out).mono ?_; rintro e w1 ⟨xs, us, A, C, ca, cc, rfl, hx6, hu6, hub, hO1, hP1, hB1⟩
    obtain ⟨m, hm⟩ : ∃ m, xs.length = m := ⟨_, rfl⟩
    rw [hm] at hx6 ⊢
    have HM := Lib.hid hm
    obtain ⟨q, hq⟩ : ∃ q, us.length = q := ⟨_, rfl⟩
    rw [hq] at hu6 ⊢
    have HU := Lib.hid hq
    clear hm hq hub
    obtain ⟨v, hv⟩ : ∃ v, rsI xs us = v := ⟨_, rfl⟩
    have HV := Lib.hid hv
    cases hr : roB xs us
    · obtain rfl : v = -1 := by rw [← hv]; unfold rsI; rw [hr]; rfl
      clear hv hr
      go_wp2_with fail
      refine (iRs_is A C ca cc xs us _ HM.out hO1.row (by omega) HU.out hP1.row (by omega) HV.out).mono ?_; rintro e w2 ⟨rfl, hw2⟩
      have hO2 := hO1.next hw2
      have hP2 := hP1.next hw2
      have hB2 := bel_next hB1 hw2
      go_wp2_with fail
      refine (sRs_is A C ca cc xs us _ HM.out hO2.row (by omega) HU.out hP2.row (by omega) HV.out).mono ?_; rintro e w3 ⟨rfl, hw3⟩
      have hO3 := hO2.next hw3
      have hP3 := hP2.next hw3
      have hB3 := bel_next hB2 hw3
      go_wp2_with fail
      refine (alive_any _).mono ?_; rintro e w' ⟨rfl, rfl⟩
      go_wp2
      go_ret
      exact ⟨rfl, hB3⟩
    · have hrw : rwB xs = true := by unfold roB at hr; rw [Bool.and_eq_true] at hr; exact hr.1
      have hv0 : 0 ≤ v := by rw [← hv]; exact rsI_nn7 hr
      have h1 := rsI_le_rm (xs := xs) (us := us) (by rw [hv]; exact hv0)
      have h2 := rsI_le_sum (xs := xs) (us := us) (by rw [hv]; exact hv0)
      rw [hv] at h1 h2
      have HRW := Lib.hid hrw
      obtain ⟨u, hu⟩ : ∃ u, rmI xs = u := ⟨_, rfl⟩
      rw [hu] at h1
      have HRM := Lib.hid hu
      obtain ⟨z, hz⟩ : ∃ z, xs.sum = z := ⟨_, rfl⟩
      rw [hz] at h2
      have HSM := Lib.hid hz
      have hvn : ¬ v < 0 := by omega
      clear hv hr hrw hu hz
      go_wp2_with fail
      refine (iRs_is A C ca cc xs us _ HM.out hO1.row (by omega) HU.out hP1.row (by omega) HV.out).mono ?_; rintro e w2 ⟨rfl, hw2⟩
      have hO2 := hO1.next hw2
      have hP2 := hP1.next hw2
      have hB2 := bel_next hB1 hw2
      go_wp2_with fail
      refine (sRs_is A C ca cc xs us _ HM.out hO2.row (by omega) HU.out hP2.row (by omega) HV.out).mono ?_; rintro e w3 ⟨rfl, hw3⟩
      have hO3 := hO2.next hw3
      have hP3 := hP2.next hw3
      have hB3 := bel_next hB2 hw3
      go_wp2_with fail
      refine (iRm_is A ca xs _ HM.out hO3.row (by omega) HRM.out).mono ?_; rintro e w6 ⟨rfl, hw6⟩
      have hB6 := bel_next hB3 hw6
      have hO6 := hO3.next hw6
      go_wp2_with fail
      refine (sumOf_is A ca xs _ HM.out hO6.row HRW.out).mono ?_; rintro e w7 ⟨rfl, hw7⟩
      have hB7 := bel_next hB6 hw7
      rw [HSM.out]
      go_wp2
      go_ret
      exact ⟨rfl, hB7⟩

set_option maxRecDepth 100000 in
theorem lifted (os : Os) (started : os.Started) (H : Type) (enc : TypeId × Value → H) :
    ReturnsInHanded {} Try.checked os 8 .any (Rows.fnRowSumSpec.pre6 enc Try.prog Try.f8 Rows.fnRowSumRow.domain false) (Rows.fnRowSumSpec.post enc Try.prog Try.f8 false true false false) := by
  refine returnsInHanded_of_change (C := Try.checked) own started (by kernel_rfl) Try.func8
    (ChangeSpec.witness6 (enc := enc) (C := Try.checked) false ⟨#[], #[.slice none 0 0], []⟩ 8 (by kernel_rfl) (by kernel_rfl) (by kernel_rfl) (by kernel_rfl)) ?_
  intro W base args ds gs before hval0 hW hcnd _
  have hval : ∀ (j : Nat) t v, Try.f8.params[j]? = some t → args[j]? = some v → Value.okWide Try.prog W .any base t v := hval0
  have hW' := hW
  obtain ⟨p, q, hA0, hV, rfl, hfz, hnd⟩ := hW
  have hA : DataW.TrodAll enc Try.prog W 0 (fun _ => true) true Try.f8.params.toList args.toList ds p := hA0
  rw [Try.params8] at hA hval
  obtain ⟨v0, vs0, d0, ds0, p0, q0, hargs, rfl, rfl, h0, r0⟩ := trodAll_cons hA
  obtain ⟨rfl, rfl, rfl⟩ := trodAll_nil r0
  obtain rfl : args = #[v0] := by cases args; simp_all
  obtain ⟨rfl, rfl⟩ := trodVars_none hV
  have k0 := h0
  have lt0 : ∀ x ∈ p0, x.block < W.heap.size := by obtain ⟨m, hm⟩ := k0; exact DataW.trod_lt m _ _ _ hm
  obtain ⟨a0, len0, cap0, rfl⟩ := okWide_slice Try.underlying22 (hval 0 22 v0 rfl rfl)
  have w0 : CodeOk W a0 len0 cap0 := by
    obtain ⟨fuel, hf⟩ := h0
    rcases open_ints Try.underlying22 Try.underlying5 (by kernel_rfl) hf with ⟨hcs, _⟩ | ⟨x, l, c, zs, hcs, _, hl, hm, hz, _, hcell, hwz⟩
    · simp [Value.cells] at hcs
      obtain ⟨rfl, rfl, rfl⟩ := hcs
      exact code_nil W
    · simp [Value.cells] at hcs
      obtain ⟨rfl, rfl, rfl⟩ := hcs
      exact code_ok hl hm (by simp at hz; omega) hcell hwz
  clear hA0 hval0
  refine (walk W a0 len0 cap0 w0).mono fun e W' ⟨he, bel⟩ => ?_
  subst he
  exact ⟨_, rfl, _, _, _, [], _, [], hW', trodAll_mk1 (shut_bool Try.underlying4 _), (trodAll_cons_mk (Below.trod laidOut (by kernel_rfl) (of_decide_eq_true (by kernel_rfl)) k0 bel lt0) trodAll_mk0), rfl, bel.frame _, fun h => by cases h⟩

theorem over : Rows.fnRowSumRow.holds Try.pinned (OpenSpec.ofChange Rows.fnRowSumSpec) :=
  OpenClaim.holds_of_wide 8 Try.f8 rfl rfl rfl rfl rfl rfl rfl ⟨rfl, rfl, rfl, rfl, rfl⟩ rfl rfl rfl rfl rfl (by kernel_rfl) Try.func8 (by kernel_rfl)
    (of_decide_eq_true (by kernel_rfl)) (by unfold Func.isWrapper; first | (rw [if_pos (by decide +kernel)]; kernel_rfl) | (rw [if_neg (by decide +kernel)]; exact ⟨rfl, rfl⟩))
    (fun os started H enc _ => lifted os started H enc)

/-- The statement. -/
theorem proved : Rows.FnRowSumSaid :=
  over
#print axioms proved
end Go.Proofs.Ytfgaggdiepielaa.fnRowSum
