/- FnLoadsBound: whatever the input, the law returns true, and its arguments read as they did. No conditions beyond those of the statement's row. -/
import Derived.Test.YtfgaggdiepielabZy
import Derived.Test.YtfgaggdiepielabZb
import Derived.Test.YtfgaggdiepielabKw
import Derived.Test.YtfgaggdiepielabLp
namespace Go.Proofs.Ytfgaggdiepielab.fnLoadsBound
open Go.Proofs.Ytfgaggdiepielab
open Go.ChangeShapes Go.WideShapes Go.ChangeAt Go.RowKit Go.Joins
set_option linter.unusedVariables false
set_option linter.unusedSimpArgs false
set_option linter.unnecessarySimpa false

theorem own : ownKnob Try.prog.godebug = none := by kernel_rfl
theorem laidOut : laidOutB Try.prog = true := by kernel_rfl

set_option maxRecDepth 100000 in
set_option maxHeartbeats 4000000 in
theorem walk (w : World) (a0 : Option Addr) (len0 cap0 : Nat) (w0 : CodeOk w a0 len0 cap0) :
    Calls Try.prog 10 #[.slice a0 len0 cap0] w fun e w' => e = .returned (.bool true) ∧ Below w.heap.size w w' := by
  by_cases hl : 1048576 < len0
  · have w0' := w0.2.1
    unfold maxLen at w0'
    clear w0
    go_enter Try.func10, Try.ntmps10
    go_wp2
    go_ret
    exact ⟨rfl, Below.refl _ _⟩
  · have w0' := w0.2.1
    unfold maxLen at w0'
    have hle := w0.1
    have HW := Lib.hid w0
    clear w0
    go_enter Try.func10, Try.ntmps10
    go_wp2_with fail
    refine (drLoadsBound_any _ _ _ _ HW.out).mono ?_; rintro e w1 ⟨xs, A, cp, rfl, hx6, hO1, hB1⟩
    obtain ⟨m, hm⟩ : ∃ m, xs.length = m := ⟨_, rfl⟩
    rw [hm] at hx6 ⊢
    have HM := Lib.hid hm
    clear hm
    cases hv : ldB xs
    · have HV : Hid (lbI xs = -1) := Lib.hid (lbI_no hv)
      clear hv
      go_wp2_with fail
      refine (iLb_is A cp xs _ HM.out hO1.row (by omega) HV.out).mono ?_; rintro e w2 ⟨rfl, hw2⟩
      have hO2 := hO1.next hw2
      have hB2 := bel_next hB1 hw2
      go_wp2_with fail
      refine (sLb_is A cp xs _ HM.out hO2.row (by omega) HV.out).mono ?_; rintro e w3 ⟨rfl, hw3⟩
      have hO3 := hO2.next hw3
      have hB3 := bel_next hB2 hw3
      go_wp2_with fail
      refine (alive_any _).mono ?_; rintro e w' ⟨rfl, rfl⟩
      go_wp2
      go_ret
      exact ⟨rfl, hB3⟩
    · have h0 := lbO_nn xs 10
      have HV : Hid (lbI xs = lbO xs 10) := Lib.hid (lbI_yes hv)
      have HT : Hid (0 < m → lbI (xs.drop 1) = lbO xs 10 ∨ lbI (xs.drop 1) = lbO xs 10 - 1) := Lib.hid (fun h => by rw [← lbI_yes hv]; exact lb_law hv (by rw [HM.out]; exact h))
      have HZ : Hid (m = 0 → lbO xs 10 = 0) := Lib.hid (fun h0 => by have : xs = [] := List.length_eq_zero_iff.1 (by rw [HM.out, h0]); rw [this]; exact lbO_nil 10)
      have HB9 : Hid (lbO xs 10 ≤ 1000) := Lib.hid (lbO_bd hv)
      clear hv
      generalize lbO xs 10 = v at h0 HV HT HZ HB9
      have hb9 := HB9.out
      have hvn : ¬ v < 0 := by omega
      go_wp2_with fail
      refine (iLb_is A cp xs _ HM.out hO1.row (by omega) HV.out).mono ?_; rintro e w2 ⟨rfl, hw2⟩
      have hO2 := hO1.next hw2
      have hB2 := bel_next hB1 hw2
      go_wp2_with fail
      refine (sLb_is A cp xs _ HM.out hO2.row (by omega) HV.out).mono ?_; rintro e w3 ⟨rfl, hw3⟩
      have hO3 := hO2.next hw3
      have hB3 := bel_next hB2 hw3
      by_cases hm0 : m = 0
      · have hv0 := HZ.out hm0
        subst hv0
        subst hm0
        go_wp2
        go_ret
        exact ⟨rfl, hB3⟩
      · obtain ⟨u, hu9⟩ : ∃ u, lbI (xs.drop 1) = u := ⟨_, rfl⟩
        have hu8 := HT.out (by omega)
        rw [hu9] at hu8
        have HU := Lib.hid hu9
        have HUU := Lib.hid hu8
        clear hu9 hu8
        have HDL : Hid ((xs.drop 1).length = m - 1) := Lib.hid (by rw [List.length_drop, HM.out])
        obtain ⟨g, rfl, _, _⟩ := hO3.at_ (i := 0) (by rw [HM.out]; omega)
        obtain ⟨hcp, _⟩ := hO3.cap
        rw [HM.out] at hcp
        have z0 : ((m : Int) == 0) = false := by rw [beq_eq_false_iff_ne]; omega
        have hm1 : 1 ≤ m := by omega
        have hmi : (1 : Int) ≤ (m : Int) := by omega
        clear hm0
        by_cases hc : cp = 1
        · obtain rfl : m = 1 := by omega
          subst hc
          have HNI : Hid (xs.drop 1 = []) := Lib.hid (List.length_eq_zero_iff.1 (by rw [HDL.out]))
          go_wp2_with fail
          refine (iLb_is _ _ (xs.drop 1) _ HDL.out (.inl HNI.out) (by omega) HU.out).mono ?_; rintro e w6 ⟨rfl, hw6⟩
          have hB6 := bel_next hB3 hw6
          rcases HUU.out with hu | hu
          · subst hu
            go_wp2
            go_ret
            exact ⟨rfl, hB6⟩
          · have hw9 : IntKind.i64.wrap (v - 1) = v - 1 := IntWalk.i64_in _ (by omega)
            have hne : (v - 1 == v) = false := by rw [beq_eq_false_iff_ne]; omega
            subst hu
            go_wp2
            go_ret
            exact ⟨rfl, hB6⟩
        · go_wp2_with fail
          refine (iLb_is _ _ (xs.drop 1) _ HDL.out (SOwn.tailW hO3) (by omega) HU.out).mono ?_; rintro e w6 ⟨rfl, hw6⟩
          have hB6 := bel_next hB3 hw6
          rcases HUU.out with hu | hu
          · subst hu
            go_wp2
            go_ret
            exact ⟨rfl, hB6⟩
          · have hw9 : IntKind.i64.wrap (v - 1) = v - 1 := IntWalk.i64_in _ (by omega)
            have hne : (v - 1 == v) = false := by rw [beq_eq_false_iff_ne]; omega
            subst hu
            go_wp2
            go_ret
            exact ⟨rfl, hB6⟩

set_option maxRecDepth 100000 in
theorem lifted (os : Os) (started : os.Started) (H : Type) (enc : TypeId × Value → H) :
    ReturnsInHanded {} Try.checked os 10 .any (Rows.fnLoadsBoundSpec.pre6 enc Try.prog Try.f10 Rows.fnLoadsBoundRow.domain false) (Rows.fnLoadsBoundSpec.post enc Try.prog Try.f10 false true false false) := by
  refine returnsInHanded_of_change (C := Try.checked) own started (by kernel_rfl) Try.func10
    (ChangeSpec.witness6 (enc := enc) (C := Try.checked) false ⟨#[], #[.slice none 0 0], []⟩ 8 (by kernel_rfl) (by kernel_rfl) (by kernel_rfl) (by kernel_rfl)) ?_
  intro W base args ds gs before hval0 hW hcnd _
  have hval : ∀ (j : Nat) t v, Try.f10.params[j]? = some t → args[j]? = some v → Value.okWide Try.prog W .any base t v := hval0
  have hW' := hW
  obtain ⟨p, q, hA0, hV, rfl, hfz, hnd⟩ := hW
  have hA : DataW.TrodAll enc Try.prog W 0 (fun _ => true) true Try.f10.params.toList args.toList ds p := hA0
  rw [Try.params10] at hA hval
  obtain ⟨v0, vs0, d0, ds0, p0, q0, hargs, rfl, rfl, h0, r0⟩ := trodAll_cons hA
  obtain ⟨rfl, rfl, rfl⟩ := trodAll_nil r0
  obtain rfl : args = #[v0] := by cases args; simp_all
  obtain ⟨rfl, rfl⟩ := trodVars_none hV
  have k0 := h0
  have lt0 : ∀ x ∈ p0, x.block < W.heap.size := by obtain ⟨m, hm⟩ := k0; exact DataW.trod_lt m _ _ _ hm
  obtain ⟨a0, len0, cap0, rfl⟩ := okWide_slice Try.underlying22 (hval 0 22 v0 rfl rfl)
  have w0 : CodeOk W a0 len0 cap0 := by
    obtain ⟨fuel, hf⟩ := h0
    rcases open_ints Try.underlying22 Try.underlying5 (by kernel_rfl) hf with ⟨hcs, _⟩ | ⟨x, l, c, zs, hcs, _, hl, hm, hz, _, hcell, hwz⟩
    · simp [Value.cells] at hcs
      obtain ⟨rfl, rfl, rfl⟩ := hcs
      exact code_nil W
    · simp [Value.cells] at hcs
      obtain ⟨rfl, rfl, rfl⟩ := hcs
      exact code_ok hl hm (by simp at hz; omega) hcell hwz
  clear hA0 hval0
  refine (walk W a0 len0 cap0 w0).mono fun e W' ⟨he, bel⟩ => ?_
  subst he
  exact ⟨_, rfl, _, _, _, [], _, [], hW', trodAll_mk1 (shut_bool Try.underlying4 _), (trodAll_cons_mk (Below.trod laidOut (by kernel_rfl) (of_decide_eq_true (by kernel_rfl)) k0 bel lt0) trodAll_mk0), rfl, bel.frame _, fun h => by cases h⟩

theorem over : Rows.fnLoadsBoundRow.holds Try.pinned (OpenSpec.ofChange Rows.fnLoadsBoundSpec) :=
  OpenClaim.holds_of_wide 10 Try.f10 rfl rfl rfl rfl rfl rfl rfl ⟨rfl, rfl, rfl, rfl, rfl⟩ rfl rfl rfl rfl rfl (by kernel_rfl) Try.func10 (by kernel_rfl)
    (of_decide_eq_true (by kernel_rfl)) (by unfold Func.isWrapper; first | (rw [if_pos (by decide +kernel)]; kernel_rfl) | (rw [if_neg (by decide +kernel)]; exact ⟨rfl, rfl⟩))
    (fun os started H enc _ => lifted os started H enc)

/-- The statement. -/
theorem proved : Rows.FnLoadsBoundSaid :=
  over
#print axioms proved
end Go.Proofs.Ytfgaggdiepielab.fnLoadsBound
