/- FnRotaValid: whatever the input, the law returns true, and its arguments read as they did. No conditions beyond those of the statement's row. -/
import Derived.Test.YtoklehmoeollfaaNt
import Derived.Test.YtoklehmoeollfaaNl
import Derived.Test.YtoklehmoeollfaaNu
import Derived.Test.YtoklehmoeollfaaLp
namespace Go.Proofs.Ytoklehmoeollfaa.fnRotaValid
open Go.Proofs.Ytoklehmoeollfaa
open Go.ChangeShapes Go.WideShapes Go.ChangeAt Go.RowKit Go.Joins
set_option linter.unusedVariables false
set_option linter.unusedSimpArgs false
set_option linter.unnecessarySimpa false

theorem own : ownKnob Try.prog.godebug = none := by kernel_rfl
theorem laidOut : laidOutB Try.prog = true := by kernel_rfl

set_option maxRecDepth 100000 in
set_option maxHeartbeats 4000000 in
theorem walk (w : World) (a0 : Option Addr) (len0 cap0 : Nat) (w0 : CodeOk w a0 len0 cap0) :
    Calls Try.prog 3 #[.slice a0 len0 cap0] w fun e w' => e = .returned (.bool true) ∧ Below w.heap.size w w' := by
  by_cases hl : 1048576 < len0
  · have w0' := w0.2.1
    unfold maxLen at w0'
    clear w0
    go_enter Try.func3, Try.ntmps3
    go_wp2
    go_ret
    exact ⟨rfl, Below.refl _ _⟩
  · have w0' := w0.2.1
    unfold maxLen at w0'
    have hle := w0.1
    have HW := Lib.hid w0
    clear w0
    go_enter Try.func3, Try.ntmps3
    go_wp2_with fail
    refine (drRotaValid_any _ _ _ _ HW.out).mono ?_; rintro e w1 ⟨A, cp, hs, rows, rfl, h9, hl7, hN0, hB0⟩
    obtain ⟨m, hm⟩ : ∃ m, rows.length = m := ⟨_, rfl⟩
    rw [hm] at h9 ⊢
    have HN := Lib.hid hm
    clear hm
    have HJ : Hid (∀ j (hj : j < rows.length), rows[j].length ≤ 2000000) := Lib.hid (fun j hj => by have := hl7 j; rw [rwK_at hj] at this; omega)
    have hcap : m ≤ cp := by have := hN0.hd.cap.1; rw [hN0.len, HN.out] at this; exact this
    have hI := hN0.nrow
    obtain ⟨v, hv⟩ : ∃ v, rvB rows = v := ⟨_, rfl⟩
    have HV := Lib.hid hv
    clear hv
    have HV0 : Hid (rvB [] = true) := Lib.hid rv_nil
    cases v
    · go_wp2_with fail
      refine (iRv_is _ _ _ rows _ HN.out hI (by omega) HJ.out HV.out).mono ?_; rintro e w2 ⟨rfl, hw2⟩
      have hI2 := hI.next hw2
      have hB2 := bel_next hB0 hw2
      go_wp2_with fail
      refine (sRv_is _ _ _ rows _ HN.out hI2 (by omega) HJ.out HV.out).mono ?_; rintro e w3 ⟨rfl, hw3⟩
      have hI3 := hI2.next hw3
      have hB3 := bel_next hB2 hw3
      go_wp2_with fail
      refine (iRv_is (n := 0) none 0 [] [] _ rfl (NRow.nil _) (by omega) (fun j hj => absurd hj (Nat.not_lt_zero _)) HV0.out).mono ?_; rintro e w9 ⟨rfl, hw9⟩
      have hB9 := bel_next hB3 hw9
      go_wp2_with fail
      refine (alive_any _).mono ?_; rintro e' w' ⟨rfl, rfl⟩
      go_wp2
      go_ret
      exact ⟨rfl, hB9⟩
    · by_cases hm0 : m = 0
      · subst hm0
        go_wp2_with fail
        refine (iRv_is _ _ _ rows _ HN.out hI (by omega) HJ.out HV.out).mono ?_; rintro e w2 ⟨rfl, hw2⟩
        have hI2 := hI.next hw2
        have hB2 := bel_next hB0 hw2
        go_wp2_with fail
        refine (sRv_is _ _ _ rows _ HN.out hI2 (by omega) HJ.out HV.out).mono ?_; rintro e w3 ⟨rfl, hw3⟩
        have hI3 := hI2.next hw3
        have hB3 := bel_next hB2 hw3
        go_wp2_with fail
        refine (iRv_is (n := 0) none 0 [] [] _ rfl (NRow.nil _) (by omega) (fun j hj => absurd hj (Nat.not_lt_zero _)) HV0.out).mono ?_; rintro e w9 ⟨rfl, hw9⟩
        have hB9 := bel_next hB3 hw9
        go_wp2_with fail
        refine (alive_any _).mono ?_; rintro e' w' ⟨rfl, rfl⟩
        go_wp2
        go_ret
        exact ⟨rfl, hB9⟩
      · have hmb : ((m : Int) == 0) = false := by rw [beq_eq_false_iff_ne]; omega
        have hm1 : (1 : Int) ≤ (m : Int) := by omega
        have hm1n : 1 ≤ m := by omega
        have HVD : Hid (rvB (rows.drop 1) = true) := Lib.hid (rv_drop HV.out)
        have HJD : Hid (∀ j (hj : j < (rows.drop 1).length), (rows.drop 1)[j].length ≤ 2000000) := Lib.hid (fun j hj => by rw [List.getElem_drop]; exact HJ.out (1 + j) (by simp at hj; omega))
        have HND : Hid ((rows.drop 1).length = m - 1) := Lib.hid (by rw [List.length_drop, HN.out])
        rcases hN0.hd.form with ⟨_, e, _⟩ | ⟨gA, e, _, _⟩
        · exfalso; have := hN0.len; rw [e] at this; rw [HN.out] at this; simp at this; omega
        subst e
        by_cases hc1 : cp = 1
        · have hm1e : m = 1 := by omega
          have hrd : rows.drop 1 = [] := List.length_eq_zero_iff.1 (by rw [HND.out]; omega)
          have HRD := Lib.hid hrd
          clear hrd
          subst hc1
          subst hm1e
          go_wp2_with fail
          refine (iRv_is _ _ _ rows _ HN.out hI (by omega) HJ.out HV.out).mono ?_; rintro e w2 ⟨rfl, hw2⟩
          have hI2 := hI.next hw2
          have hB2 := bel_next hB0 hw2
          go_wp2_with fail
          refine (sRv_is _ _ _ rows _ HN.out hI2 (by omega) HJ.out HV.out).mono ?_; rintro e w3 ⟨rfl, hw3⟩
          have hI3 := hI2.next hw3
          have hB3 := bel_next hB2 hw3
          go_wp2_with fail
          refine (iRv_is (n := 0) _ _ [] [] _ rfl (NRow.nil _) (by omega) (fun j hj => absurd hj (Nat.not_lt_zero _)) HV0.out).mono ?_; rintro e w4 ⟨rfl, hw4⟩
          have hB4 := bel_next hB3 hw4
          go_wp2_with fail
          refine (iRv_is (n := 0) none 0 [] [] _ rfl (NRow.nil _) (by omega) (fun j hj => absurd hj (Nat.not_lt_zero _)) HV0.out).mono ?_; rintro e w9 ⟨rfl, hw9⟩
          have hB9 := bel_next hB4 hw9
          go_wp2_with fail
          refine (alive_any _).mono ?_; rintro e' w' ⟨rfl, rfl⟩
          go_wp2
          go_ret
          exact ⟨rfl, hB9⟩
        · have hcp1 : ¬ cp = 1 := hc1
          have HC1 := Lib.hid hc1
          have hcp2 : (1 : Int) ≤ (cp : Int) := by omega
          go_wp2_with fail
          refine (iRv_is _ _ _ rows _ HN.out hI (by omega) HJ.out HV.out).mono ?_; rintro e w2 ⟨rfl, hw2⟩
          have hI2 := hI.next hw2
          have hB2 := bel_next hB0 hw2
          go_wp2_with fail
          refine (sRv_is _ _ _ rows _ HN.out hI2 (by omega) HJ.out HV.out).mono ?_; rintro e w3 ⟨rfl, hw3⟩
          have hI3 := hI2.next hw3
          have hB3 := bel_next hB2 hw3
          have hD3 := hI3.drop1
          go_wp2_with fail
          refine (iRv_is _ _ _ (rows.drop 1) _ HND.out hD3 (by omega) HJD.out HVD.out).mono ?_; rintro e w4 ⟨rfl, hw4⟩
          have hB4 := bel_next hB3 hw4
          go_wp2_with fail
          refine (iRv_is (n := 0) none 0 [] [] _ rfl (NRow.nil _) (by omega) (fun j hj => absurd hj (Nat.not_lt_zero _)) HV0.out).mono ?_; rintro e w9 ⟨rfl, hw9⟩
          have hB9 := bel_next hB4 hw9
          go_wp2_with fail
          refine (alive_any _).mono ?_; rintro e' w' ⟨rfl, rfl⟩
          go_wp2
          go_ret
          exact ⟨rfl, hB9⟩

set_option maxRecDepth 100000 in
theorem lifted (os : Os) (started : os.Started) (H : Type) (enc : TypeId × Value → H) :
    ReturnsInHanded {} Try.checked os 3 .any (Rows.fnRotaValidSpec.pre6 enc Try.prog Try.f3 Rows.fnRotaValidRow.domain false) (Rows.fnRotaValidSpec.post enc Try.prog Try.f3 false true false false) := by
  refine returnsInHanded_of_change (C := Try.checked) own started (by kernel_rfl) Try.func3
    (ChangeSpec.witness6 (enc := enc) (C := Try.checked) false ⟨#[], #[.slice none 0 0], []⟩ 8 (by kernel_rfl) (by kernel_rfl) (by kernel_rfl) (by kernel_rfl)) ?_
  intro W base args ds gs before hval0 hW hcnd _
  have hval : ∀ (j : Nat) t v, Try.f3.params[j]? = some t → args[j]? = some v → Value.okWide Try.prog W .any base t v := hval0
  have hW' := hW
  obtain ⟨p, q, hA0, hV, rfl, hfz, hnd⟩ := hW
  have hA : DataW.TrodAll enc Try.prog W 0 (fun _ => true) true Try.f3.params.toList args.toList ds p := hA0
  rw [Try.params3] at hA hval
  obtain ⟨v0, vs0, d0, ds0, p0, q0, hargs, rfl, rfl, h0, r0⟩ := trodAll_cons hA
  obtain ⟨rfl, rfl, rfl⟩ := trodAll_nil r0
  obtain rfl : args = #[v0] := by cases args; simp_all
  obtain ⟨rfl, rfl⟩ := trodVars_none hV
  have k0 := h0
  have lt0 : ∀ x ∈ p0, x.block < W.heap.size := by obtain ⟨m, hm⟩ := k0; exact DataW.trod_lt m _ _ _ hm
  obtain ⟨a0, len0, cap0, rfl⟩ := okWide_slice Try.underlying22 (hval 0 22 v0 rfl rfl)
  have w0 : CodeOk W a0 len0 cap0 := by
    obtain ⟨fuel, hf⟩ := h0
    rcases open_ints Try.underlying22 Try.underlying5 (by kernel_rfl) hf with ⟨hcs, _⟩ | ⟨x, l, c, zs, hcs, _, hl, hm, hz, _, hcell, hwz⟩
    · simp [Value.cells] at hcs
      obtain ⟨rfl, rfl, rfl⟩ := hcs
      exact code_nil W
    · simp [Value.cells] at hcs
      obtain ⟨rfl, rfl, rfl⟩ := hcs
      exact code_ok hl hm (by simp at hz; omega) hcell hwz
  clear hA0 hval0
  refine (walk W a0 len0 cap0 w0).mono fun e W' ⟨he, bel⟩ => ?_
  subst he
  exact ⟨_, rfl, _, _, _, [], _, [], hW', trodAll_mk1 (shut_bool Try.underlying4 _), (trodAll_cons_mk (Below.trod laidOut (by kernel_rfl) (of_decide_eq_true (by kernel_rfl)) k0 bel lt0) trodAll_mk0), rfl, bel.frame _, fun h => by cases h⟩

theorem over : Rows.fnRotaValidRow.holds Try.pinned (OpenSpec.ofChange Rows.fnRotaValidSpec) :=
  OpenClaim.holds_of_wide 3 Try.f3 rfl rfl rfl rfl rfl rfl rfl ⟨rfl, rfl, rfl, rfl, rfl⟩ rfl rfl rfl rfl rfl (by kernel_rfl) Try.func3 (by kernel_rfl)
    (of_decide_eq_true (by kernel_rfl)) (by unfold Func.isWrapper; first | (rw [if_pos (by decide +kernel)]; kernel_rfl) | (rw [if_neg (by decide +kernel)]; exact ⟨rfl, rfl⟩))
    (fun os started H enc _ => lifted os started H enc)

/-- The statement. -/
theorem proved : Rows.FnRotaValidSaid :=
  over
#print axioms proved
end Go.Proofs.Ytoklehmoeollfaa.fnRotaValid
