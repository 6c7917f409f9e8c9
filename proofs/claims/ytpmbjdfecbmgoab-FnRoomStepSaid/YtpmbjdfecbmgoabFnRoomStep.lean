/- FnRoomStep: whatever the input, the law returns true, and its arguments read as they did. No conditions beyond those of the statement's row. -/
import Derived.Test.YtpmbjdfecbmgoabBg
import Derived.Test.YtpmbjdfecbmgoabBo
import Derived.Test.YtpmbjdfecbmgoabBq
import Derived.Test.YtpmbjdfecbmgoabLp
namespace Go.Proofs.Ytpmbjdfecbmgoab.fnRoomStep
open Go.Proofs.Ytpmbjdfecbmgoab
open Go.ChangeShapes Go.WideShapes Go.ChangeAt Go.RowKit Go.Joins
set_option linter.unusedVariables false
set_option linter.unusedSimpArgs false
set_option linter.unnecessarySimpa false

theorem own : ownKnob Try.prog.godebug = none := by kernel_rfl
theorem laidOut : laidOutB Try.prog = true := by kernel_rfl

set_option maxRecDepth 100000 in
set_option maxHeartbeats 4000000 in
theorem walk (w : World) (a0 : Option Addr) (len0 cap0 : Nat) (w0 : CodeOk w a0 len0 cap0) :
    Calls Try.prog 3 #[.slice a0 len0 cap0] w fun e w' => e = .returned (.bool true) ∧ Below w.heap.size w w' := by
  by_cases hl : 1048576 < len0
  · have w0' := w0.2.1
    unfold maxLen at w0'
    clear w0
    go_enter Try.func3, Try.ntmps3
    go_wp2
    go_ret
    exact ⟨rfl, Below.refl _ _⟩
  · have w0' := w0.2.1
    unfold maxLen at w0'
    have hle := w0.1
    have HW := Lib.hid w0
    clear w0
    go_enter Try.func3, Try.ntmps3
    go_wp2_with fail
    refine (drRoomStep_any _ _ _ _ HW.out).mono ?_; rintro e w1 ⟨a, o, l, k, rfl, ⟨a0, a1⟩, ⟨o0, o1⟩, ⟨l0, l1⟩, ⟨k0, k1⟩, hB0⟩
    have hlv : inV l 0 100 = true := by unfold inV; simp; omega
    cases hm : rmB a o k
    · have HX : Hid (rqI a o l k = -1) := Lib.hid (rqI_no1 hm)
      clear hm
      go_wp2_with fail
      refine (iRs_is _ HX.out).mono ?_; rintro e' w' ⟨rfl, rfl⟩
      go_wp2_with fail
      refine (sRs_is _ HX.out).mono ?_; rintro e' w' ⟨rfl, rfl⟩
      go_wp2_with fail
      refine (alive_any _).mono ?_; rintro e' w' ⟨rfl, rfl⟩
      go_wp2
      go_ret
      exact ⟨rfl, hB0⟩
    · obtain ⟨⟨a2, a3⟩, ⟨o2, o3⟩, ⟨k2, k3⟩⟩ := rmB_iff.1 hm
      have hxb := rsR_bd hm l0 l1
      have hn := rsR_near hm
      obtain ⟨x, hx⟩ : ∃ x, rsR a o l k = x := ⟨_, rfl⟩
      obtain ⟨y, hy⟩ : ∃ y, rsR a o 0 k = y := ⟨_, rfl⟩
      have HX : Hid (rqI a o l k = x) := Lib.hid ((rqI_yes hm hlv).trans hx)
      have HY : Hid (rqI a o 0 k = y) := Lib.hid ((rqI_yes hm rfl).trans hy)
      rw [hx] at hxb
      rw [hy] at hn
      obtain ⟨x0, x1⟩ := hxb
      obtain ⟨n0, n1⟩ := hn
      obtain ⟨z, hz⟩ : ∃ z, rsR (a + 1) o l k = z := ⟨_, rfl⟩
      have hzx : x ≤ z := by rw [← hx, ← hz]; exact rsR_mono k2 (by omega) (Int.le_refl _)
      have HZ : Hid (a ≠ 500 → rqI (a + 1) o l k = z) := Lib.hid (fun h => (rqI_yes (rmB_iff.2 ⟨⟨by omega, by omega⟩, ⟨o2, o3⟩, ⟨k2, k3⟩⟩) hlv).trans hz)
      obtain ⟨v, hv⟩ : ∃ z, rsR a o (l + 1) k = z := ⟨_, rfl⟩
      have hvx : x ≤ v := by rw [← hx, ← hv]; exact rsR_mono k2 (Int.le_refl _) (by omega)
      have HV : Hid (l ≠ 100 → rqI a o (l + 1) k = v) := Lib.hid (fun h => (rqI_yes hm (by unfold inV; simp; omega)).trans hv)
      clear hm hx hy hz hv hlv
      by_cases hao : a < o
      · by_cases ha : a = 500
        · by_cases hl : l = 100
          · have hae : (a == 500) = true := by rw [beq_iff_eq]; exact ha
            have hle : (l == 100) = true := by rw [beq_iff_eq]; exact hl
            have hmn : y ≥ a := by omega
            have hmx : y ≤ o := by omega
            clear ha hl HZ HV n0 n1
            go_wp2_with fail
            refine (iRs_is _ HX.out).mono ?_; rintro e' w' ⟨rfl, rfl⟩
            go_wp2_with fail
            refine (sRs_is _ HX.out).mono ?_; rintro e' w' ⟨rfl, rfl⟩
            go_wp2_with fail
            refine (iRs_is _ HY.out).mono ?_; rintro e' w' ⟨rfl, rfl⟩
            go_wp2
            go_ret
            exact ⟨rfl, hB0⟩
          · have hae : (a == 500) = true := by rw [beq_iff_eq]; exact ha
            have hle : (l == 100) = false := by rw [beq_eq_false_iff_ne]; exact hl
            have HV2 := Lib.hid (HV.out hl)
            have hmn : y ≥ a := by omega
            have hmx : y ≤ o := by omega
            clear ha hl HZ HV n0 n1
            go_wp2_with fail
            refine (iRs_is _ HX.out).mono ?_; rintro e' w' ⟨rfl, rfl⟩
            go_wp2_with fail
            refine (sRs_is _ HX.out).mono ?_; rintro e' w' ⟨rfl, rfl⟩
            go_wp2_with fail
            refine (iRs_is _ HY.out).mono ?_; rintro e' w' ⟨rfl, rfl⟩
            go_wp2_with fail
            refine (iRs_is _ HV2.out).mono ?_; rintro e' w' ⟨rfl, rfl⟩
            go_wp2
            go_ret
            exact ⟨rfl, hB0⟩
        · by_cases hl : l = 100
          · have hae : (a == 500) = false := by rw [beq_eq_false_iff_ne]; exact ha
            have hle : (l == 100) = true := by rw [beq_iff_eq]; exact hl
            have HZ2 := Lib.hid (HZ.out ha)
            have hmn : y ≥ a := by omega
            have hmx : y ≤ o := by omega
            clear ha hl HZ HV n0 n1
            go_wp2_with fail
            refine (iRs_is _ HX.out).mono ?_; rintro e' w' ⟨rfl, rfl⟩
            go_wp2_with fail
            refine (sRs_is _ HX.out).mono ?_; rintro e' w' ⟨rfl, rfl⟩
            go_wp2_with fail
            refine (iRs_is _ HY.out).mono ?_; rintro e' w' ⟨rfl, rfl⟩
            go_wp2_with fail
            refine (iRs_is _ HZ2.out).mono ?_; rintro e' w' ⟨rfl, rfl⟩
            go_wp2
            go_ret
            exact ⟨rfl, hB0⟩
          · have hae : (a == 500) = false := by rw [beq_eq_false_iff_ne]; exact ha
            have hle : (l == 100) = false := by rw [beq_eq_false_iff_ne]; exact hl
            have HZ2 := Lib.hid (HZ.out ha)
            have HV2 := Lib.hid (HV.out hl)
            have hmn : y ≥ a := by omega
            have hmx : y ≤ o := by omega
            clear ha hl HZ HV n0 n1
            go_wp2_with fail
            refine (iRs_is _ HX.out).mono ?_; rintro e' w' ⟨rfl, rfl⟩
            go_wp2_with fail
            refine (sRs_is _ HX.out).mono ?_; rintro e' w' ⟨rfl, rfl⟩
            go_wp2_with fail
            refine (iRs_is _ HY.out).mono ?_; rintro e' w' ⟨rfl, rfl⟩
            go_wp2_with fail
            refine (iRs_is _ HZ2.out).mono ?_; rintro e' w' ⟨rfl, rfl⟩
            go_wp2_with fail
            refine (iRs_is _ HV2.out).mono ?_; rintro e' w' ⟨rfl, rfl⟩
            go_wp2
            go_ret
            exact ⟨rfl, hB0⟩
      · by_cases hoa : o < a
        · by_cases ha : a = 500
          · by_cases hl : l = 100
            · have hae : (a == 500) = true := by rw [beq_iff_eq]; exact ha
              have hle : (l == 100) = true := by rw [beq_iff_eq]; exact hl
              have hmn : y ≥ o := by omega
              have hmx : y ≤ a := by omega
              clear ha hl HZ HV n0 n1
              go_wp2_with fail
              refine (iRs_is _ HX.out).mono ?_; rintro e' w' ⟨rfl, rfl⟩
              go_wp2_with fail
              refine (sRs_is _ HX.out).mono ?_; rintro e' w' ⟨rfl, rfl⟩
              go_wp2_with fail
              refine (iRs_is _ HY.out).mono ?_; rintro e' w' ⟨rfl, rfl⟩
              go_wp2
              go_ret
              exact ⟨rfl, hB0⟩
            · have hae : (a == 500) = true := by rw [beq_iff_eq]; exact ha
              have hle : (l == 100) = false := by rw [beq_eq_false_iff_ne]; exact hl
              have HV2 := Lib.hid (HV.out hl)
              have hmn : y ≥ o := by omega
              have hmx : y ≤ a := by omega
              clear ha hl HZ HV n0 n1
              go_wp2_with fail
              refine (iRs_is _ HX.out).mono ?_; rintro e' w' ⟨rfl, rfl⟩
              go_wp2_with fail
              refine (sRs_is _ HX.out).mono ?_; rintro e' w' ⟨rfl, rfl⟩
              go_wp2_with fail
              refine (iRs_is _ HY.out).mono ?_; rintro e' w' ⟨rfl, rfl⟩
              go_wp2_with fail
              refine (iRs_is _ HV2.out).mono ?_; rintro e' w' ⟨rfl, rfl⟩
              go_wp2
              go_ret
              exact ⟨rfl, hB0⟩
          · by_cases hl : l = 100
            · have hae : (a == 500) = false := by rw [beq_eq_false_iff_ne]; exact ha
              have hle : (l == 100) = true := by rw [beq_iff_eq]; exact hl
              have HZ2 := Lib.hid (HZ.out ha)
              have hmn : y ≥ o := by omega
              have hmx : y ≤ a := by omega
              clear ha hl HZ HV n0 n1
              go_wp2_with fail
              refine (iRs_is _ HX.out).mono ?_; rintro e' w' ⟨rfl, rfl⟩
              go_wp2_with fail
              refine (sRs_is _ HX.out).mono ?_; rintro e' w' ⟨rfl, rfl⟩
              go_wp2_with fail
              refine (iRs_is _ HY.out).mono ?_; rintro e' w' ⟨rfl, rfl⟩
              go_wp2_with fail
              refine (iRs_is _ HZ2.out).mono ?_; rintro e' w' ⟨rfl, rfl⟩
              go_wp2
              go_ret
              exact ⟨rfl, hB0⟩
            · have hae : (a == 500) = false := by rw [beq_eq_false_iff_ne]; exact ha
              have hle : (l == 100) = false := by rw [beq_eq_false_iff_ne]; exact hl
              have HZ2 := Lib.hid (HZ.out ha)
              have HV2 := Lib.hid (HV.out hl)
              have hmn : y ≥ o := by omega
              have hmx : y ≤ a := by omega
              clear ha hl HZ HV n0 n1
              go_wp2_with fail
              refine (iRs_is _ HX.out).mono ?_; rintro e' w' ⟨rfl, rfl⟩
              go_wp2_with fail
              refine (sRs_is _ HX.out).mono ?_; rintro e' w' ⟨rfl, rfl⟩
              go_wp2_with fail
              refine (iRs_is _ HY.out).mono ?_; rintro e' w' ⟨rfl, rfl⟩
              go_wp2_with fail
              refine (iRs_is _ HZ2.out).mono ?_; rintro e' w' ⟨rfl, rfl⟩
              go_wp2_with fail
              refine (iRs_is _ HV2.out).mono ?_; rintro e' w' ⟨rfl, rfl⟩
              go_wp2
              go_ret
              exact ⟨rfl, hB0⟩
        · obtain rfl : o = a := by omega
          by_cases ha : o = 500
          · by_cases hl : l = 100
            · have hae : (o == 500) = true := by rw [beq_iff_eq]; exact ha
              have hle : (l == 100) = true := by rw [beq_iff_eq]; exact hl
              have hmn : y ≥ o := by omega
              have hmx : y ≤ o := by omega
              clear ha hl HZ HV n0 n1
              go_wp2_with fail
              refine (iRs_is _ HX.out).mono ?_; rintro e' w' ⟨rfl, rfl⟩
              go_wp2_with fail
              refine (sRs_is _ HX.out).mono ?_; rintro e' w' ⟨rfl, rfl⟩
              go_wp2_with fail
              refine (iRs_is _ HY.out).mono ?_; rintro e' w' ⟨rfl, rfl⟩
              go_wp2
              go_ret
              exact ⟨rfl, hB0⟩
            · have hae : (o == 500) = true := by rw [beq_iff_eq]; exact ha
              have hle : (l == 100) = false := by rw [beq_eq_false_iff_ne]; exact hl
              have HV2 := Lib.hid (HV.out hl)
              have hmn : y ≥ o := by omega
              have hmx : y ≤ o := by omega
              clear ha hl HZ HV n0 n1
              go_wp2_with fail
              refine (iRs_is _ HX.out).mono ?_; rintro e' w' ⟨rfl, rfl⟩
              go_wp2_with fail
              refine (sRs_is _ HX.out).mono ?_; rintro e' w' ⟨rfl, rfl⟩
              go_wp2_with fail
              refine (iRs_is _ HY.out).mono ?_; rintro e' w' ⟨rfl, rfl⟩
              go_wp2_with fail
              refine (iRs_is _ HV2.out).mono ?_; rintro e' w' ⟨rfl, rfl⟩
              go_wp2
              go_ret
              exact ⟨rfl, hB0⟩
          · by_cases hl : l = 100
            · have hae : (o == 500) = false := by rw [beq_eq_false_iff_ne]; exact ha
              have hle : (l == 100) = true := by rw [beq_iff_eq]; exact hl
              have HZ2 := Lib.hid (HZ.out ha)
              have hmn : y ≥ o := by omega
              have hmx : y ≤ o := by omega
              clear ha hl HZ HV n0 n1
              go_wp2_with fail
              refine (iRs_is _ HX.out).mono ?_; rintro e' w' ⟨rfl, rfl⟩
              go_wp2_with fail
              refine (sRs_is _ HX.out).mono ?_; rintro e' w' ⟨rfl, rfl⟩
              go_wp2_with fail
              refine (iRs_is _ HY.out).mono ?_; rintro e' w' ⟨rfl, rfl⟩
              go_wp2_with fail
              refine (iRs_is _ HZ2.out).mono ?_; rintro e' w' ⟨rfl, rfl⟩
              go_wp2
              go_ret
              exact ⟨rfl, hB0⟩
            · have hae : (o == 500) = false := by rw [beq_eq_false_iff_ne]; exact ha
              have hle : (l == 100) = false := by rw [beq_eq_false_iff_ne]; exact hl
              have HZ2 := Lib.hid (HZ.out ha)
              have HV2 := Lib.hid (HV.out hl)
              have hmn : y ≥ o := by omega
              have hmx : y ≤ o := by omega
              clear ha hl HZ HV n0 n1
              go_wp2_with fail
              refine (iRs_is _ HX.out).mono ?_; rintro e' w' ⟨rfl, rfl⟩
              go_wp2_with fail
              refine (sRs_is _ HX.out).mono ?_; rintro e' w' ⟨rfl, rfl⟩
              go_wp2_with fail
              refine (iRs_is _ HY.out).mono ?_; rintro e' w' ⟨rfl, rfl⟩
              go_wp2_with fail
              refine (iRs_is _ HZ2.out).mono ?_; rintro e' w' ⟨rfl, rfl⟩
              go_wp2_with fail
              refine (iRs_is _ HV2.out).mono ?_; rintro e' w' ⟨rfl, rfl⟩
              go_wp2
              go_ret
              exact ⟨rfl, hB0⟩

set_option maxRecDepth 100000 in
theorem lifted (os : Os) (started : os.Started) (H : Type) (enc : TypeId × Value → H) :
    ReturnsInHanded {} Try.checked os 3 .any (Rows.fnRoomStepSpec.pre6 enc Try.prog Try.f3 Rows.fnRoomStepRow.domain false) (Rows.fnRoomStepSpec.post enc Try.prog Try.f3 false true false false) := by
  refine returnsInHanded_of_change (C := Try.checked) own started (by kernel_rfl) Try.func3
    (ChangeSpec.witness6 (enc := enc) (C := Try.checked) false ⟨#[], #[.slice none 0 0], []⟩ 8 (by kernel_rfl) (by kernel_rfl) (by kernel_rfl) (by kernel_rfl)) ?_
  intro W base args ds gs before hval0 hW hcnd _
  have hval : ∀ (j : Nat) t v, Try.f3.params[j]? = some t → args[j]? = some v → Value.okWide Try.prog W .any base t v := hval0
  have hW' := hW
  obtain ⟨p, q, hA0, hV, rfl, hfz, hnd⟩ := hW
  have hA : DataW.TrodAll enc Try.prog W 0 (fun _ => true) true Try.f3.params.toList args.toList ds p := hA0
  rw [Try.params3] at hA hval
  obtain ⟨v0, vs0, d0, ds0, p0, q0, hargs, rfl, rfl, h0, r0⟩ := trodAll_cons hA
  obtain ⟨rfl, rfl, rfl⟩ := trodAll_nil r0
  obtain rfl : args = #[v0] := by cases args; simp_all
  obtain ⟨rfl, rfl⟩ := trodVars_none hV
  have k0 := h0
  have lt0 : ∀ x ∈ p0, x.block < W.heap.size := by obtain ⟨m, hm⟩ := k0; exact DataW.trod_lt m _ _ _ hm
  obtain ⟨a0, len0, cap0, rfl⟩ := okWide_slice Try.underlying22 (hval 0 22 v0 rfl rfl)
  have w0 : CodeOk W a0 len0 cap0 := by
    obtain ⟨fuel, hf⟩ := h0
    rcases open_ints Try.underlying22 Try.underlying5 (by kernel_rfl) hf with ⟨hcs, _⟩ | ⟨x, l, c, zs, hcs, _, hl, hm, hz, _, hcell, hwz⟩
    · simp [Value.cells] at hcs
      obtain ⟨rfl, rfl, rfl⟩ := hcs
      exact code_nil W
    · simp [Value.cells] at hcs
      obtain ⟨rfl, rfl, rfl⟩ := hcs
      exact code_ok hl hm (by simp at hz; omega) hcell hwz
  clear hA0 hval0
  refine (walk W a0 len0 cap0 w0).mono fun e W' ⟨he, bel⟩ => ?_
  subst he
  exact ⟨_, rfl, _, _, _, [], _, [], hW', trodAll_mk1 (shut_bool Try.underlying4 _), (trodAll_cons_mk (Below.trod laidOut (by kernel_rfl) (of_decide_eq_true (by kernel_rfl)) k0 bel lt0) trodAll_mk0), rfl, bel.frame _, fun h => by cases h⟩

theorem over : Rows.fnRoomStepRow.holds Try.pinned (OpenSpec.ofChange Rows.fnRoomStepSpec) :=
  OpenClaim.holds_of_wide 3 Try.f3 rfl rfl rfl rfl rfl rfl rfl ⟨rfl, rfl, rfl, rfl, rfl⟩ rfl rfl rfl rfl rfl (by kernel_rfl) Try.func3 (by kernel_rfl)
    (of_decide_eq_true (by kernel_rfl)) (by unfold Func.isWrapper; first | (rw [if_pos (by decide +kernel)]; kernel_rfl) | (rw [if_neg (by decide +kernel)]; exact ⟨rfl, rfl⟩))
    (fun os started H enc _ => lifted os started H enc)

/-- The statement. -/
theorem proved : Rows.FnRoomStepSaid :=
  over
#print axioms proved
end Go.Proofs.Ytpmbjdfecbmgoab.fnRoomStep
