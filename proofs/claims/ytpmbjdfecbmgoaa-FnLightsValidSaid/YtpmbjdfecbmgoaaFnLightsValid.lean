/- FnLightsValid: whatever the input, the law returns true, and its arguments read as they did. No conditions beyond those of the statement's row. -/
import Derived.Test.YtpmbjdfecbmgoaaBe
import Derived.Test.YtpmbjdfecbmgoaaBa
import Derived.Test.YtpmbjdfecbmgoaaBq
import Derived.Test.YtpmbjdfecbmgoaaKw
import Derived.Test.YtpmbjdfecbmgoaaBj
import Derived.Test.YtpmbjdfecbmgoaaLp
namespace Go.Proofs.Ytpmbjdfecbmgoaa.fnLightsValid
open Go.Proofs.Ytpmbjdfecbmgoaa
open Go.ChangeShapes Go.WideShapes Go.ChangeAt Go.RowKit Go.Joins
set_option linter.unusedVariables false
set_option linter.unusedSimpArgs false
set_option linter.unnecessarySimpa false

theorem own : ownKnob Try.prog.godebug = none := by kernel_rfl
theorem laidOut : laidOutB Try.prog = true := by kernel_rfl

set_option maxRecDepth 100000 in
set_option maxHeartbeats 4000000 in
theorem walk (w : World) (a0 : Option Addr) (len0 cap0 : Nat) (w0 : CodeOk w a0 len0 cap0) :
    Calls Try.prog 4 #[.slice a0 len0 cap0] w fun e w' => e = .returned (.bool true) ∧ Below w.heap.size w w' := by
  by_cases hl : 1048576 < len0
  · have w0' := w0.2.1
    unfold maxLen at w0'
    clear w0
    go_enter Try.func4, Try.ntmps4
    go_wp2
    go_ret
    exact ⟨rfl, Below.refl _ _⟩
  · have w0' := w0.2.1
    unfold maxLen at w0'
    have hle := w0.1
    have HW := Lib.hid w0
    clear w0
    go_enter Try.func4, Try.ntmps4
    obtain ⟨i0, hi0, hz0, hz1, hz2⟩ := info_parts infoNum
    have HI := Lib.hid (And.intro hi0 (And.intro hz0 (And.intro hz1 hz2)))
    clear hi0 hz0 hz1 hz2
    go_wp2_with fail
    refine (drLightsValid_any _ _ _ _ HW.out).mono ?_; rintro e w1 ⟨xs, A, cp, rfl, hx6, hO0, hB0⟩
    obtain ⟨m, hm⟩ : ∃ m, xs.length = m := ⟨_, rfl⟩
    rw [hm] at hx6 ⊢
    have HM := Lib.hid hm
    clear hm
    have HF : Hid (ltB ([-1] ++ xs) = false) := Lib.hid (ltB_neg xs)
    have HFN : Hid (([-1] ++ xs).length = 1 + m) := Lib.hid (by rw [List.length_append, HM.out]; rfl)
    cases hv : ltB xs
    · have HV := Lib.hid hv
      clear hv
      go_wp2_with fail
      refine (iLt_is A cp xs _ HM.out hO0.row (by omega) HV.out).mono ?_; rintro e' w1 ⟨rfl, hw1⟩
      have hO1 := hO0.next hw1
      have hB1 := bel_next hB0 hw1
      go_wp2_with fail
      refine (sLt_is A cp xs _ HM.out hO1.row (by omega) HV.out).mono ?_; rintro e' w2 ⟨rfl, hw2⟩
      have hO2 := hO1.next hw2
      have hB2 := bel_next hB1 hw2
      rcases hO2.form with ⟨rfl, hxn, rfl⟩ | ⟨gA, rfl, _, _⟩
      · subst hxn
        have hm0 : (0 : Nat) = m := HM.out
        subst hm0
        have hzr := hB2.size
        have hOd := hO2.alloc (.cells (encNum.enc (-1)).toArray 3)
        have hL : SOwn encNum (w2.alloc (.cells (encNum.enc (-1)).toArray 3)) w.heap.size 3 (some ⟨w2.heap.size, 0, none⟩) 1 [-1] := SOwn.of_blk (E := encNum) (xs := [-1]) (blk_new w2 (.cells (encNum.enc (-1)).toArray 3)) hzr rfl (by unfold maxLen; omega)
        have hBL := hB2.alloc hzr (.cells (encNum.enc (-1)).toArray 3)
        go_wp2_with (at_builtin; refine append_none_gK (by kernel_rfl) (.tmp 25) (.tmp 26) _ rfl w.heap.size 3 i0 1 Try.underlying29 HI.out.1 (.slice (some ⟨w2.heap.size, 0, none⟩) 1 1) 1 (encNum.flat [-1]) rfl hL rfl ?_)
        have hMo := hL
        have hB9 := hBL
        go_wp2_with fail
        refine (iLt_is (n := 1) _ _ [-1] _ rfl hMo.row (by omega) HF.out).mono ?_; rintro e wf ⟨rfl, hwf⟩
        have hBf := bel_next hB9 hwf
        go_wp2_with fail
        refine (alive_any _).mono ?_; rintro e' w' ⟨rfl, rfl⟩
        go_wp2
        go_ret
        exact ⟨rfl, hBf⟩
      · have hzr := hB2.size
        have hOd := hO2.alloc (.cells (encNum.enc (-1)).toArray 3)
        have hL : SOwn encNum (w2.alloc (.cells (encNum.enc (-1)).toArray 3)) w.heap.size 3 (some ⟨w2.heap.size, 0, none⟩) 1 [-1] := SOwn.of_blk (E := encNum) (xs := [-1]) (blk_new w2 (.cells (encNum.enc (-1)).toArray 3)) hzr rfl (by unfold maxLen; omega)
        have hBL := hB2.alloc hzr (.cells (encNum.enc (-1)).toArray 3)
        go_wp2_with (at_builtin; refine append_own_gK _ (by kernel_rfl) (.tmp 25) (.tmp 26) _ rfl w.heap.size 3 i0 _ 1 8 Try.underlying29 HI.out.1 HI.out.2.1 HI.out.2.2.1 HI.out.2.2.2 rfl (by omega) (.slice (some ⟨w2.heap.size, 0, none⟩) 1 1) 1 (encNum.flat [-1]) rfl hL ⟨gA, 0, none⟩ m cp (encNum.flat xs) rfl (by rw [encNum.flat_len, HM.out]; rfl) (SRow.newsW hOd.row) (encNum.flat_one _) (by simp only [maxLen]; omega) (by omega) (by simp; omega) ?_; intro v9 w9 hown9 hgr9 hnil9)
        obtain ⟨A9, cap9, rfl⟩ := own_valK hown9
        have hMo : SOwn encNum w9 w.heap.size 3 A9 cap9 ([-1] ++ xs) := SOwn.of_raw (E := encNum) hown9 (by simp [Enc.flat]) HFN.out
        have hB9 := hL.below_grown (n := 1) hBL hgr9
        go_wp2_with fail
        refine (iLt_is _ _ ([-1] ++ xs) _ HFN.out hMo.row (by omega) HF.out).mono ?_; rintro e wf ⟨rfl, hwf⟩
        have hBf := bel_next hB9 hwf
        go_wp2_with fail
        refine (alive_any _).mono ?_; rintro e' w' ⟨rfl, rfl⟩
        go_wp2
        go_ret
        exact ⟨rfl, hBf⟩
    · have HV := Lib.hid hv
      clear hv
      have hm60 : m ≤ 60 := by have := (ltB_iff.1 HV.out).1; rw [HM.out] at this; exact this
      have HZ : Hid (ltB (List.replicate m 0) = true) := Lib.hid (ltB_dark hm60)
      have HZL : Hid ((List.replicate m (0 : Int)).length = m) := Lib.hid (by simp)
      go_wp2_with fail
      refine (iLt_is A cp xs _ HM.out hO0.row (by omega) HV.out).mono ?_; rintro e' w1 ⟨rfl, hw1⟩
      have hO1 := hO0.next hw1
      have hB1 := bel_next hB0 hw1
      go_wp2_with fail
      refine (sLt_is A cp xs _ HM.out hO1.row (by omega) HV.out).mono ?_; rintro e' w2 ⟨rfl, hw2⟩
      have hO2 := hO1.next hw2
      have hB2 := bel_next hB1 hw2
      go_wp2_with (at_make; refine make_structs_gK _ encNum (0 : Int) (by kernel_rfl) _ _ 29 rfl 3 i0 _ Try.underlying29 HI.out.1 HI.out.2.1 HI.out.2.2.1 rfl .i64 .i64 m rfl rfl (by rw [HI.out.2.2.2]; omega) (by omega) ?_)
      have hZb : SBlk encNum (w2.alloc (.cells (encNum.flat (List.replicate m 0)).toArray 3)) w2.heap.size 3 (List.replicate m 0) := blk_new w2 (.cells (encNum.flat (List.replicate m 0)).toArray 3)
      have hOz := hO2.alloc (.cells (encNum.flat (List.replicate m 0)).toArray 3)
      have hBz := hB2.alloc hB2.size (.cells (encNum.flat (List.replicate m 0)).toArray 3)
      go_wp2_with fail
      refine (iLt_is _ _ (List.replicate m 0) _ HZL.out hZb.row (by omega) HZ.out).mono ?_; rintro e wz ⟨rfl, hwz⟩
      have hOy := hOz.next hwz
      have hBy := bel_next hBz hwz
      rcases hOy.form with ⟨rfl, hxn, rfl⟩ | ⟨gA, rfl, _, _⟩
      · subst hxn
        have hm0 : (0 : Nat) = m := HM.out
        subst hm0
        have hzr := hBy.size
        have hOd := hOy.alloc (.cells (encNum.enc (-1)).toArray 3)
        have hL : SOwn encNum (wz.alloc (.cells (encNum.enc (-1)).toArray 3)) w.heap.size 3 (some ⟨wz.heap.size, 0, none⟩) 1 [-1] := SOwn.of_blk (E := encNum) (xs := [-1]) (blk_new wz (.cells (encNum.enc (-1)).toArray 3)) hzr rfl (by unfold maxLen; omega)
        have hBL := hBy.alloc hzr (.cells (encNum.enc (-1)).toArray 3)
        go_wp2_with (at_builtin; refine append_none_gK (by kernel_rfl) (.tmp 25) (.tmp 26) _ rfl w.heap.size 3 i0 1 Try.underlying29 HI.out.1 (.slice (some ⟨wz.heap.size, 0, none⟩) 1 1) 1 (encNum.flat [-1]) rfl hL rfl ?_)
        have hMo := hL
        have hB9 := hBL
        go_wp2_with fail
        refine (iLt_is (n := 1) _ _ [-1] _ rfl hMo.row (by omega) HF.out).mono ?_; rintro e wf ⟨rfl, hwf⟩
        have hBf := bel_next hB9 hwf
        go_wp2_with fail
        refine (alive_any _).mono ?_; rintro e' w' ⟨rfl, rfl⟩
        go_wp2
        go_ret
        exact ⟨rfl, hBf⟩
      · have hzr := hBy.size
        have hOd := hOy.alloc (.cells (encNum.enc (-1)).toArray 3)
        have hL : SOwn encNum (wz.alloc (.cells (encNum.enc (-1)).toArray 3)) w.heap.size 3 (some ⟨wz.heap.size, 0, none⟩) 1 [-1] := SOwn.of_blk (E := encNum) (xs := [-1]) (blk_new wz (.cells (encNum.enc (-1)).toArray 3)) hzr rfl (by unfold maxLen; omega)
        have hBL := hBy.alloc hzr (.cells (encNum.enc (-1)).toArray 3)
        go_wp2_with (at_builtin; refine append_own_gK _ (by kernel_rfl) (.tmp 25) (.tmp 26) _ rfl w.heap.size 3 i0 _ 1 8 Try.underlying29 HI.out.1 HI.out.2.1 HI.out.2.2.1 HI.out.2.2.2 rfl (by omega) (.slice (some ⟨wz.heap.size, 0, none⟩) 1 1) 1 (encNum.flat [-1]) rfl hL ⟨gA, 0, none⟩ m cp (encNum.flat xs) rfl (by rw [encNum.flat_len, HM.out]; rfl) (SRow.newsW hOd.row) (encNum.flat_one _) (by simp only [maxLen]; omega) (by omega) (by simp; omega) ?_; intro v9 w9 hown9 hgr9 hnil9)
        obtain ⟨A9, cap9, rfl⟩ := own_valK hown9
        have hMo : SOwn encNum w9 w.heap.size 3 A9 cap9 ([-1] ++ xs) := SOwn.of_raw (E := encNum) hown9 (by simp [Enc.flat]) HFN.out
        have hB9 := hL.below_grown (n := 1) hBL hgr9
        go_wp2_with fail
        refine (iLt_is _ _ ([-1] ++ xs) _ HFN.out hMo.row (by omega) HF.out).mono ?_; rintro e wf ⟨rfl, hwf⟩
        have hBf := bel_next hB9 hwf
        go_wp2_with fail
        refine (alive_any _).mono ?_; rintro e' w' ⟨rfl, rfl⟩
        go_wp2
        go_ret
        exact ⟨rfl, hBf⟩

set_option maxRecDepth 100000 in
theorem lifted (os : Os) (started : os.Started) (H : Type) (enc : TypeId × Value → H) :
    ReturnsInHanded {} Try.checked os 4 .any (Rows.fnLightsValidSpec.pre6 enc Try.prog Try.f4 Rows.fnLightsValidRow.domain false) (Rows.fnLightsValidSpec.post enc Try.prog Try.f4 false true false false) := by
  refine returnsInHanded_of_change (C := Try.checked) own started (by kernel_rfl) Try.func4
    (ChangeSpec.witness6 (enc := enc) (C := Try.checked) false ⟨#[], #[.slice none 0 0], []⟩ 8 (by kernel_rfl) (by kernel_rfl) (by kernel_rfl) (by kernel_rfl)) ?_
  intro W base args ds gs before hval0 hW hcnd _
  have hval : ∀ (j : Nat) t v, Try.f4.params[j]? = some t → args[j]? = some v → Value.okWide Try.prog W .any base t v := hval0
  have hW' := hW
  obtain ⟨p, q, hA0, hV, rfl, hfz, hnd⟩ := hW
  have hA : DataW.TrodAll enc Try.prog W 0 (fun _ => true) true Try.f4.params.toList args.toList ds p := hA0
  rw [Try.params4] at hA hval
  obtain ⟨v0, vs0, d0, ds0, p0, q0, hargs, rfl, rfl, h0, r0⟩ := trodAll_cons hA
  obtain ⟨rfl, rfl, rfl⟩ := trodAll_nil r0
  obtain rfl : args = #[v0] := by cases args; simp_all
  obtain ⟨rfl, rfl⟩ := trodVars_none hV
  have k0 := h0
  have lt0 : ∀ x ∈ p0, x.block < W.heap.size := by obtain ⟨m, hm⟩ := k0; exact DataW.trod_lt m _ _ _ hm
  obtain ⟨a0, len0, cap0, rfl⟩ := okWide_slice Try.underlying22 (hval 0 22 v0 rfl rfl)
  have w0 : CodeOk W a0 len0 cap0 := by
    obtain ⟨fuel, hf⟩ := h0
    rcases open_ints Try.underlying22 Try.underlying5 (by kernel_rfl) hf with ⟨hcs, _⟩ | ⟨x, l, c, zs, hcs, _, hl, hm, hz, _, hcell, hwz⟩
    · simp [Value.cells] at hcs
      obtain ⟨rfl, rfl, rfl⟩ := hcs
      exact code_nil W
    · simp [Value.cells] at hcs
      obtain ⟨rfl, rfl, rfl⟩ := hcs
      exact code_ok hl hm (by simp at hz; omega) hcell hwz
  clear hA0 hval0
  refine (walk W a0 len0 cap0 w0).mono fun e W' ⟨he, bel⟩ => ?_
  subst he
  exact ⟨_, rfl, _, _, _, [], _, [], hW', trodAll_mk1 (shut_bool Try.underlying4 _), (trodAll_cons_mk (Below.trod laidOut (by kernel_rfl) (of_decide_eq_true (by kernel_rfl)) k0 bel lt0) trodAll_mk0), rfl, bel.frame _, fun h => by cases h⟩

theorem over : Rows.fnLightsValidRow.holds Try.pinned (OpenSpec.ofChange Rows.fnLightsValidSpec) :=
  OpenClaim.holds_of_wide 4 Try.f4 rfl rfl rfl rfl rfl rfl rfl ⟨rfl, rfl, rfl, rfl, rfl⟩ rfl rfl rfl rfl rfl (by kernel_rfl) Try.func4 (by kernel_rfl)
    (of_decide_eq_true (by kernel_rfl)) (by unfold Func.isWrapper; first | (rw [if_pos (by decide +kernel)]; kernel_rfl) | (rw [if_neg (by decide +kernel)]; exact ⟨rfl, rfl⟩))
    (fun os started H enc _ => lifted os started H enc)

/-- The statement. -/
theorem proved : Rows.FnLightsValidSaid :=
  over
#print axioms proved
end Go.Proofs.Ytpmbjdfecbmgoaa.fnLightsValid
