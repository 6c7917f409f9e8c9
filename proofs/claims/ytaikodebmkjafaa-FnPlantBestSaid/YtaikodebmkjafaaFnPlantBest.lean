/- FnPlantBest: whatever the input, the law returns true, and its arguments read as they did. No conditions beyond those of the statement's row. -/
import Derived.Test.YtaikodebmkjafaaPd9
import Derived.Test.YtaikodebmkjafaaPpc
import Derived.Test.YtaikodebmkjafaaQk
import Derived.Test.YtaikodebmkjafaaKw
import Derived.Test.YtaikodebmkjafaaLp
namespace Go.Proofs.Ytaikodebmkjafaa.fnPlantBest
open Go.Proofs.Ytaikodebmkjafaa
open Go.ChangeShapes Go.WideShapes Go.ChangeAt Go.RowKit Go.Joins
set_option linter.unusedVariables false
set_option linter.unusedSimpArgs false
set_option linter.unnecessarySimpa false

theorem own : ownKnob Try.prog.godebug = none := by kernel_rfl
theorem laidOut : laidOutB Try.prog = true := by kernel_rfl

set_option maxRecDepth 100000 in
set_option maxHeartbeats 4000000 in
theorem walk (w : World) (a0 : Option Addr) (len0 cap0 : Nat) (w0 : CodeOk w a0 len0 cap0) :
    Calls Try.prog 5 #[.slice a0 len0 cap0] w fun e w' => e = .returned (.bool true) ∧ Below w.heap.size w w' := by
  by_cases hl : 1048576 < len0
  · have w0' := w0.2.1
    unfold maxLen at w0'
    clear w0
    go_enter Try.func5, Try.ntmps5
    go_wp2
    go_ret
    exact ⟨rfl, Below.refl _ _⟩
  · have w0' := w0.2.1
    unfold maxLen at w0'
    have hle := w0.1
    have HW := Lib.hid w0
    clear w0
    go_enter Try.func5, Try.ntmps5
    go_wp2_with fail
    refine (drPlantBest_any _ _ _ _ HW.out).mono ?_; rintro e w1 ⟨bs, A, cp, ps, A2, cp2, rfl, h7, h72, hO1, hP1, hB1⟩
    obtain ⟨n, hn⟩ : ∃ n, bs.length = n := ⟨_, rfl⟩
    obtain ⟨m, hm⟩ : ∃ m, ps.length = m := ⟨_, rfl⟩
    rw [hn] at h7 ⊢
    rw [hm] at h72 ⊢
    have HN := Lib.hid hn
    have HM := Lib.hid hm
    clear hn hm
    obtain ⟨l, hl9⟩ : ∃ l, pbL bs ps = l := ⟨_, rfl⟩
    have hll : l.length ≤ 6 := by rw [← hl9]; exact pbL_len
    have HL := Lib.hid hl9
    obtain ⟨q, hq⟩ : ∃ q, l.length = q := ⟨_, rfl⟩
    rw [hq] at hll
    have HQ := Lib.hid hq
    clear hl9 hq
    obtain ⟨vb, hvb⟩ : ∃ v, bsB bs = v := ⟨_, rfl⟩
    have HVB := Lib.hid hvb
    obtain ⟨vp, hvp⟩ : ∃ v, ptB ps = v := ⟨_, rfl⟩
    have HVP := Lib.hid hvp
    clear hvb hvp
    go_wp2_with fail
    refine (iPb_is A A2 cp cp2 bs ps _ HN.out HM.out hO1.row hP1.row (by omega) (by omega) HL.out).mono ?_; rintro e w2 ⟨V, cv, rfl, hV2, hw2⟩
    have hO2 := hO1.next hw2
    have hP2 := hP1.next hw2
    have hB2 := bel_next hB1 hw2
    have hV2 := hV2.mono (base' := w.heap.size) hB1.size
    rw [HQ.out]
    have hcv : q ≤ cv := by have := hV2.cap.1; rw [HQ.out] at this; exact this
    go_wp2_with fail
    refine (sPb_is A A2 cp cp2 bs ps _ HN.out HM.out hO2.row hP2.row (by omega) (by omega) HL.out).mono ?_; rintro e w3 ⟨U, cu, rfl, hU3, hw3⟩
    have hO3 := hO2.next hw3
    have hP3 := hP2.next hw3
    have hV3 := hV2.next hw3
    have hB3 := bel_next hB2 hw3
    have hU3 := hU3.mono (base' := w.heap.size) hB2.size
    rw [HQ.out]
    go_wp2_with fail
    refine (sameNums_is V U cv cu l HQ.out hV3.row hU3.row (by omega)).mono ?_; rintro e w4 ⟨rfl, hw4⟩
    have hO4 := hO3.next hw4
    have hP4 := hP3.next hw4
    have hV4 := hV3.next hw4
    have hU4 := hU3.next hw4
    have hB4 := bel_next hB3 hw4
    go_wp2_with fail
    refine (sBe_is A cp bs _ HN.out hO4.row (by omega) HVB.out).mono ?_; rintro e w5 ⟨rfl, hw5⟩
    have hO5 := hO4.next hw5
    have hP5 := hP4.next hw5
    have hV5 := hV4.next hw5
    have hU5 := hU4.next hw5
    have hB5 := bel_next hB4 hw5
    cases vb
    · obtain rfl : q = 0 := by have h1 := HL.out; rw [pbL_no1 HVB.out] at h1; rw [← HQ.out, ← h1]; rfl
      go_wp2_with fail
      refine (alive_any _).mono ?_; rintro e w' ⟨rfl, rfl⟩
      go_wp2
      go_ret
      exact ⟨rfl, hB5⟩
    · go_wp2_with fail
      refine (sPt_is A2 cp2 ps _ HM.out hP5.row (by omega) HVP.out).mono ?_; rintro e w6 ⟨rfl, hw6⟩
      have hO6 := hO5.next hw6
      have hP6 := hP5.next hw6
      have hV6 := hV5.next hw6
      have hB6 := bel_next hB5 hw6
      cases vp
      · obtain rfl : q = 0 := by have h1 := HL.out; rw [pbL_no2 HVP.out] at h1; rw [← HQ.out, ← h1]; rfl
        go_wp2_with fail
        refine (alive_any _).mono ?_; rintro e w' ⟨rfl, rfl⟩
        go_wp2
        go_ret
        exact ⟨rfl, hB6⟩
      · have HOK : Hid (poB bs ps l = true) := Lib.hid (by rw [← HL.out]; exact pbL_ok HVB.out HVP.out)
        obtain ⟨r, hr⟩ : ∃ r, pmI bs ps l = r := ⟨_, rfl⟩
        have HR := Lib.hid hr
        have HX : Hid (pxI bs ps = r) := Lib.hid (by unfold pxI; rw [HL.out]; exact hr)
        clear hr
        go_wp2_with fail
        refine (iPo_is A A2 V cp cp2 cv bs ps l _ HN.out HM.out HQ.out hO6.row hP6.row hV6.row (by omega) (by omega) (by omega) hcv HOK.out).mono ?_; rintro e w7 ⟨rfl, hw7⟩
        have hO7 := hO6.next hw7
        have hP7 := hP6.next hw7
        have hV7 := hV6.next hw7
        have hB7 := bel_next hB6 hw7
        go_wp2_with fail
        refine (iPm_is A A2 V cp cp2 cv bs ps l _ HN.out HM.out HQ.out hO7.row hP7.row hV7.row (by omega) (by omega) (by omega) hcv HR.out).mono ?_; rintro e w8 ⟨rfl, hw8⟩
        have hO8 := hO7.next hw8
        have hP8 := hP7.next hw8
        have hV8 := hV7.next hw8
        have hB8 := bel_next hB7 hw8
        go_wp2_with fail
        refine (iPx_is A A2 cp cp2 bs ps _ HN.out HM.out hO8.row hP8.row (by omega) (by omega) HX.out).mono ?_; rintro e w9 ⟨rfl, hw9⟩
        have hO9 := hO8.next hw9
        have hP9 := hP8.next hw9
        have hV9 := hV8.next hw9
        have hB9 := bel_next hB8 hw9
        go_wp2
        go_ret
        exact ⟨rfl, hB9⟩

set_option maxRecDepth 100000 in
theorem lifted (os : Os) (started : os.Started) (H : Type) (enc : TypeId × Value → H) :
    ReturnsInHanded {} Try.checked os 5 .any (Rows.fnPlantBestSpec.pre6 enc Try.prog Try.f5 Rows.fnPlantBestRow.domain false) (Rows.fnPlantBestSpec.post enc Try.prog Try.f5 false true false false) := by
  refine returnsInHanded_of_change (C := Try.checked) own started (by kernel_rfl) Try.func5
    (ChangeSpec.witness6 (enc := enc) (C := Try.checked) false ⟨#[], #[.slice none 0 0], []⟩ 8 (by kernel_rfl) (by kernel_rfl) (by kernel_rfl) (by kernel_rfl)) ?_
  intro W base args ds gs before hval0 hW hcnd _
  have hval : ∀ (j : Nat) t v, Try.f5.params[j]? = some t → args[j]? = some v → Value.okWide Try.prog W .any base t v := hval0
  have hW' := hW
  obtain ⟨p, q, hA0, hV, rfl, hfz, hnd⟩ := hW
  have hA : DataW.TrodAll enc Try.prog W 0 (fun _ => true) true Try.f5.params.toList args.toList ds p := hA0
  rw [Try.params5] at hA hval
  obtain ⟨v0, vs0, d0, ds0, p0, q0, hargs, rfl, rfl, h0, r0⟩ := trodAll_cons hA
  obtain ⟨rfl, rfl, rfl⟩ := trodAll_nil r0
  obtain rfl : args = #[v0] := by cases args; simp_all
  obtain ⟨rfl, rfl⟩ := trodVars_none hV
  have k0 := h0
  have lt0 : ∀ x ∈ p0, x.block < W.heap.size := by obtain ⟨m, hm⟩ := k0; exact DataW.trod_lt m _ _ _ hm
  obtain ⟨a0, len0, cap0, rfl⟩ := okWide_slice Try.underlying22 (hval 0 22 v0 rfl rfl)
  have w0 : CodeOk W a0 len0 cap0 := by
    obtain ⟨fuel, hf⟩ := h0
    rcases open_ints Try.underlying22 Try.underlying5 (by kernel_rfl) hf with ⟨hcs, _⟩ | ⟨x, l, c, zs, hcs, _, hl, hm, hz, _, hcell, hwz⟩
    · simp [Value.cells] at hcs
      obtain ⟨rfl, rfl, rfl⟩ := hcs
      exact code_nil W
    · simp [Value.cells] at hcs
      obtain ⟨rfl, rfl, rfl⟩ := hcs
      exact code_ok hl hm (by simp at hz; omega) hcell hwz
  clear hA0 hval0
  refine (walk W a0 len0 cap0 w0).mono fun e W' ⟨he, bel⟩ => ?_
  subst he
  exact ⟨_, rfl, _, _, _, [], _, [], hW', trodAll_mk1 (shut_bool Try.underlying4 _), (trodAll_cons_mk (Below.trod laidOut (by kernel_rfl) (of_decide_eq_true (by kernel_rfl)) k0 bel lt0) trodAll_mk0), rfl, bel.frame _, fun h => by cases h⟩

theorem over : Rows.fnPlantBestRow.holds Try.pinned (OpenSpec.ofChange Rows.fnPlantBestSpec) :=
  OpenClaim.holds_of_wide 5 Try.f5 rfl rfl rfl rfl rfl rfl rfl ⟨rfl, rfl, rfl, rfl, rfl⟩ rfl rfl rfl rfl rfl (by kernel_rfl) Try.func5 (by kernel_rfl)
    (of_decide_eq_true (by kernel_rfl)) (by unfold Func.isWrapper; first | (rw [if_pos (by decide +kernel)]; kernel_rfl) | (rw [if_neg (by decide +kernel)]; exact ⟨rfl, rfl⟩))
    (fun os started H enc _ => lifted os started H enc)

/-- The statement. -/
theorem proved : Rows.FnPlantBestSaid :=
  over
#print axioms proved
end Go.Proofs.Ytaikodebmkjafaa.fnPlantBest
