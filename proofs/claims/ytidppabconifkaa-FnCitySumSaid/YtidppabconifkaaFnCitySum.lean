/- FnCitySum: whatever the input, the law returns true, and its arguments read as they did. No conditions beyond those of the statement's row. -/
import Derived.Test.YtidppabconifkaaYe
import Derived.Test.YtidppabconifkaaYh
import Derived.Test.YtidppabconifkaaLp
namespace Go.Proofs.Ytidppabconifkaa.fnCitySum
open Go.Proofs.Ytidppabconifkaa
open Go.ChangeShapes Go.WideShapes Go.ChangeAt Go.RowKit Go.Joins
set_option linter.unusedVariables false
set_option linter.unusedSimpArgs false
set_option linter.unnecessarySimpa false

theorem own : ownKnob Try.prog.godebug = none := by kernel_rfl
theorem laidOut : laidOutB Try.prog = true := by kernel_rfl

set_option maxRecDepth 100000 in
set_option maxHeartbeats 4000000 in
theorem walk (w : World) (a0 : Option Addr) (len0 cap0 : Nat) (w0 : CodeOk w a0 len0 cap0) :
    Calls Try.prog 10 #[.slice a0 len0 cap0] w fun e w' => e = .returned (.bool true) ∧ Below w.heap.size w w' := by
  by_cases hl : 1048576 < len0
  · have w0' := w0.2.1
    unfold maxLen at w0'
    clear w0
    go_enter Try.func10, Try.ntmps10
    go_wp2
    go_ret
    exact ⟨rfl, Below.refl _ _⟩
  · have w0' := w0.2.1
    unfold maxLen at w0'
    have hle := w0.1
    have HW := Lib.hid w0
    clear w0
    go_enter Try.func10, Try.ntmps10
    go_wp2_with fail
    refine (drCitySum_any _ _ _ _ HW.out).mono ?_; rintro e w1 ⟨d, xs, A, cp, rfl, ⟨d0, d1⟩, hx6, hO0, hB0⟩
    obtain ⟨m, hm⟩ : ∃ m, xs.length = m := ⟨_, rfl⟩
    rw [hm] at hx6 ⊢
    have HM := Lib.hid hm
    clear hm
    cases hv : cvB d xs
    · have HX : Hid (csI d xs = -1) := Lib.hid (cs_no hv)
      have HV := Lib.hid hv
      clear hv
      have hP1 : (w1.alloc (.cells #[.int .i64 d, .slice A m cp] 25)).heap[w1.heap.size]? = some (.cells #[.int .i64 d, .slice A m cp] 25) := by have := blk_new (w1) (.cells #[.int .i64 d, .slice A m cp] 25); simpa using this
      have hB1 := hB0.alloc hB0.size (.cells #[.int .i64 d, .slice A m cp] 25)
      have hO1 := hO0.next (bel1 _ (.cells #[.int .i64 d, .slice A m cp] 25))
      have zBP := hB0.size
      obtain ⟨cP1_0, cP1_1, fP1_0, fP1_1, zP1⟩ := blk2 hP1
      go_wp2_with fail
      refine (iCs_is d A cp xs _ HM.out hO1.row (by omega) HX.out).mono ?_; rintro e' w2 ⟨rfl, hw2⟩
      have hP2 := blk_next hP1 hw2
      have hO2 := hO1.next hw2
      have hB2 := bel_next hB1 hw2
      obtain ⟨cP2_0, cP2_1, fP2_0, fP2_1, zP2⟩ := blk2 hP2
      go_wp2_with fail
      refine (sCs_is d A cp xs _ HM.out hO2.row (by omega) HX.out).mono ?_; rintro e' w3 ⟨rfl, hw3⟩
      have hP3 := blk_next hP2 hw3
      have hO3 := hO2.next hw3
      have hB3 := bel_next hB2 hw3
      obtain ⟨cP3_0, cP3_1, fP3_0, fP3_1, zP3⟩ := blk2 hP3
      go_wp2_with fail
      refine (iCv_is d A cp xs _ HM.out hO3.row (by omega) HV.out).mono ?_; rintro e' w4 ⟨rfl, hw4⟩
      have hP4 := blk_next hP3 hw4
      have hO4 := hO3.next hw4
      have hB4 := bel_next hB3 hw4
      go_wp2_with fail
      refine (alive_any _).mono ?_; rintro e' w' ⟨rfl, rfl⟩
      go_wp2
      go_ret
      exact ⟨rfl, hB4⟩
    · have hrn := (cvB_iff.1 hv).2.2
      have hs0 := su_rng hrn m
      obtain ⟨s, hs⟩ : ∃ s, suI xs m = s := ⟨_, rfl⟩
      have HX : Hid (csI d xs = s) := Lib.hid ((cs_yes hv).trans (by rw [HM.out]; exact hs))
      obtain ⟨l, hl⟩ : ∃ l, ctL d xs = l := ⟨_, rfl⟩
      have hl1 : ct1 d xs = l := by rw [← ctL_ct1 hv]; exact hl
      have HTD : Hid (ctD d xs = d) := Lib.hid (ctD_yes hv)
      have HTL := Lib.hid hl
      have HLL : Hid (l.length = m) := Lib.hid (by rw [← hl1, ct1_len, HM.out])
      have HX2 : Hid (csI d l = s) := Lib.hid (by rw [← hl1, cs_yes (ct1_cv hv), su_turn (cv_sq hv), HM.out]; exact hs)
      have HRN := Lib.hid hrn
      have HS := Lib.hid hs
      rw [hs] at hs0
      obtain ⟨s0, s1⟩ := hs0
      have hsn : ¬ s < 0 := by omega
      clear hv hrn hs hl hl1
      have hP1 : (w1.alloc (.cells #[.int .i64 d, .slice A m cp] 25)).heap[w1.heap.size]? = some (.cells #[.int .i64 d, .slice A m cp] 25) := by have := blk_new (w1) (.cells #[.int .i64 d, .slice A m cp] 25); simpa using this
      have hB1 := hB0.alloc hB0.size (.cells #[.int .i64 d, .slice A m cp] 25)
      have hO1 := hO0.next (bel1 _ (.cells #[.int .i64 d, .slice A m cp] 25))
      have zBP := hB0.size
      obtain ⟨cP1_0, cP1_1, fP1_0, fP1_1, zP1⟩ := blk2 hP1
      go_wp2_with fail
      refine (iCs_is d A cp xs _ HM.out hO1.row (by omega) HX.out).mono ?_; rintro e' w2 ⟨rfl, hw2⟩
      have hP2 := blk_next hP1 hw2
      have hO2 := hO1.next hw2
      have hB2 := bel_next hB1 hw2
      obtain ⟨cP2_0, cP2_1, fP2_0, fP2_1, zP2⟩ := blk2 hP2
      go_wp2_with fail
      refine (sCs_is d A cp xs _ HM.out hO2.row (by omega) HX.out).mono ?_; rintro e' w3 ⟨rfl, hw3⟩
      have hP3 := blk_next hP2 hw3
      have hO3 := hO2.next hw3
      have hB3 := bel_next hB2 hw3
      obtain ⟨cP3_0, cP3_1, fP3_0, fP3_1, zP3⟩ := blk2 hP3
      go_wp2_with fail
      refine (iCt_is d A cp xs _ HM.out hO3.row (by omega) HTD.out HTL.out).mono ?_; rintro e' w4 ⟨V, cv, rfl, hV4, hw4⟩
      have hP4 := blk_next hP3 hw4
      have hO4 := hO3.next hw4
      have hB4 := bel_next hB3 hw4
      have hV4 := hV4.mono (base' := w.heap.size) hB3.size
      rw [HLL.out]
      go_wp2_with fail
      refine (iCs_is d V cv l _ HLL.out hV4.row (by omega) HX2.out).mono ?_; rintro e' w5 ⟨rfl, hw5⟩
      have hP5 := blk_next hP4 hw5
      have hO5 := hO4.next hw5
      have hV5 := hV4.next hw5
      have hB5 := bel_next hB4 hw5
      obtain ⟨cP5_0, cP5_1, fP5_0, fP5_1, zP5⟩ := blk2 hP5
      go_wp2_with fail
      refine (sumC_is A cp xs _ HM.out hO5.row HRN.out (by omega)).mono ?_; rintro e' w6 ⟨rfl, hw6⟩
      have hP6 := blk_next hP5 hw6
      have hO6 := hO5.next hw6
      have hV6 := hV5.next hw6
      have hB6 := bel_next hB5 hw6
      rw [HS.out]
      go_wp2
      go_ret
      exact ⟨rfl, hB6⟩

set_option maxRecDepth 100000 in
theorem lifted (os : Os) (started : os.Started) (H : Type) (enc : TypeId × Value → H) :
    ReturnsInHanded {} Try.checked os 10 .any (Rows.fnCitySumSpec.pre6 enc Try.prog Try.f10 Rows.fnCitySumRow.domain false) (Rows.fnCitySumSpec.post enc Try.prog Try.f10 false true false false) := by
  refine returnsInHanded_of_change (C := Try.checked) own started (by kernel_rfl) Try.func10
    (ChangeSpec.witness6 (enc := enc) (C := Try.checked) false ⟨#[], #[.slice none 0 0], []⟩ 8 (by kernel_rfl) (by kernel_rfl) (by kernel_rfl) (by kernel_rfl)) ?_
  intro W base args ds gs before hval0 hW hcnd _
  have hval : ∀ (j : Nat) t v, Try.f10.params[j]? = some t → args[j]? = some v → Value.okWide Try.prog W .any base t v := hval0
  have hW' := hW
  obtain ⟨p, q, hA0, hV, rfl, hfz, hnd⟩ := hW
  have hA : DataW.TrodAll enc Try.prog W 0 (fun _ => true) true Try.f10.params.toList args.toList ds p := hA0
  rw [Try.params10] at hA hval
  obtain ⟨v0, vs0, d0, ds0, p0, q0, hargs, rfl, rfl, h0, r0⟩ := trodAll_cons hA
  obtain ⟨rfl, rfl, rfl⟩ := trodAll_nil r0
  obtain rfl : args = #[v0] := by cases args; simp_all
  obtain ⟨rfl, rfl⟩ := trodVars_none hV
  have k0 := h0
  have lt0 : ∀ x ∈ p0, x.block < W.heap.size := by obtain ⟨m, hm⟩ := k0; exact DataW.trod_lt m _ _ _ hm
  obtain ⟨a0, len0, cap0, rfl⟩ := okWide_slice Try.underlying22 (hval 0 22 v0 rfl rfl)
  have w0 : CodeOk W a0 len0 cap0 := by
    obtain ⟨fuel, hf⟩ := h0
    rcases open_ints Try.underlying22 Try.underlying5 (by kernel_rfl) hf with ⟨hcs, _⟩ | ⟨x, l, c, zs, hcs, _, hl, hm, hz, _, hcell, hwz⟩
    · simp [Value.cells] at hcs
      obtain ⟨rfl, rfl, rfl⟩ := hcs
      exact code_nil W
    · simp [Value.cells] at hcs
      obtain ⟨rfl, rfl, rfl⟩ := hcs
      exact code_ok hl hm (by simp at hz; omega) hcell hwz
  clear hA0 hval0
  refine (walk W a0 len0 cap0 w0).mono fun e W' ⟨he, bel⟩ => ?_
  subst he
  exact ⟨_, rfl, _, _, _, [], _, [], hW', trodAll_mk1 (shut_bool Try.underlying4 _), (trodAll_cons_mk (Below.trod laidOut (by kernel_rfl) (of_decide_eq_true (by kernel_rfl)) k0 bel lt0) trodAll_mk0), rfl, bel.frame _, fun h => by cases h⟩

theorem over : Rows.fnCitySumRow.holds Try.pinned (OpenSpec.ofChange Rows.fnCitySumSpec) :=
  OpenClaim.holds_of_wide 10 Try.f10 rfl rfl rfl rfl rfl rfl rfl ⟨rfl, rfl, rfl, rfl, rfl⟩ rfl rfl rfl rfl rfl (by kernel_rfl) Try.func10 (by kernel_rfl)
    (of_decide_eq_true (by kernel_rfl)) (by unfold Func.isWrapper; first | (rw [if_pos (by decide +kernel)]; kernel_rfl) | (rw [if_neg (by decide +kernel)]; exact ⟨rfl, rfl⟩))
    (fun os started H enc _ => lifted os started H enc)

/-- The statement. -/
theorem proved : Rows.FnCitySumSaid :=
  over
#print axioms proved
end Go.Proofs.Ytidppabconifkaa.fnCitySum
