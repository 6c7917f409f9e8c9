/- FnHourBefore: whatever the input, the law returns true, and its arguments read as they did. No conditions beyond those of the statement's row. -/
import Derived.Test.YtgbelpkhfaajoabHs
import Derived.Test.YtgbelpkhfaajoabHt
import Derived.Test.YtgbelpkhfaajoabHi
import Derived.Test.YtgbelpkhfaajoabDh
import Derived.Test.YtgbelpkhfaajoabLp
namespace Go.Proofs.Ytgbelpkhfaajoab.fnHourBefore
open Go.Proofs.Ytgbelpkhfaajoab
open Go.ChangeShapes Go.WideShapes Go.ChangeAt Go.RowKit Go.Joins
set_option linter.unusedVariables false
set_option linter.unusedSimpArgs false
set_option linter.unnecessarySimpa false

theorem own : ownKnob Try.prog.godebug = none := by kernel_rfl
theorem laidOut : laidOutB Try.prog = true := by kernel_rfl

set_option maxRecDepth 100000 in
set_option maxHeartbeats 4000000 in
theorem walk (w : World) (a0 : Option Addr) (len0 cap0 : Nat) (w0 : CodeOk w a0 len0 cap0) :
    Calls Try.prog 8 #[.slice a0 len0 cap0] w fun e w' => e = .returned (.bool true) ∧ Below w.heap.size w w' := by
  by_cases hl : 1048576 < len0
  · have w0' := w0.2.1
    unfold maxLen at w0'
    clear w0
    go_enter Try.func8, Try.ntmps8
    go_wp2
    go_ret
    exact ⟨rfl, Below.refl _ _⟩
  · have w0' := w0.2.1
    unfold maxLen at w0'
    have hle := w0.1
    have HW := Lib.hid w0
    clear w0
    go_enter Try.func8, Try.ntmps8
    go_wp2_with fail
    refine (drHourBefore_any _ _ _ _ HW.out).mono ?_; rintro e' w1 ⟨l, e, n, rfl, l0, l1, e0, e1, n0, n1, hB0⟩
    have hB0 := hB0
    have hP1 := blk_new w1 (.cells #[.int .i64 e, .int .i64 n] 30)
    have hB1 := hB0.alloc hB0.size (.cells #[.int .i64 e, .int .i64 n] 30)
    obtain ⟨cP1_0, cP1_1, fP1_0, fP1_1, zP1⟩ := blk2 hP1
    go_wp2_with fail
    refine (iHourBefore_any _ _ _ _).mono ?_; rintro e' w2 ⟨r, rfl, hr, hw2⟩
    have hP2 := blk_next hP1 hw2
    have hB2 := bel_next hB1 hw2
    obtain ⟨cP2_0, cP2_1, fP2_0, fP2_1, zP2⟩ := blk2 hP2
    go_wp2_with fail
    refine (sHourBefore_any _ _ _ _).mono ?_; rintro e' w3 ⟨q, rfl, hq, hw3⟩
    have hP3 := blk_next hP2 hw3
    have hB3 := bel_next hB2 hw3
    obtain rfl := hr.unique hq
    clear hq
    obtain ⟨cP3_0, cP3_1, fP3_0, fP3_1, zP3⟩ := blk2 hP3
    by_cases hl : 1 ≤ l ∧ l ≤ 90
    · obtain ⟨g0, g1⟩ := hl
      have hl : laB l = true := laB_iff.2 ⟨g0, g1⟩
      cases hw : wvB e n
      · have hr12 : r = 12 := hr.unique (HourIs.none (hbP_f (.inr (goB_nwv hw))))
        subst hr12
        clear hr
        have HW := Lib.hid hw
        clear hw
        go_wp2_with fail
        refine (iWV_is4 _ HW.out).mono ?_; rintro e' w4 ⟨rfl, hw4⟩
        have hP4 := blk_next hP3 hw4
        have hB4 := bel_next hB3 hw4
        go_wp2_with fail
        refine (alive_any _).mono ?_; rintro e' w' ⟨rfl, rfl⟩
        go_wp2
        go_ret
        exact ⟨rfl, by first | exact hB4 | exact hB4.drew⟩
      · obtain ⟨x, hx⟩ : ∃ x, halfI e n = x := ⟨_, rfl⟩
        by_cases hlt : x < 0
        · have hr12 : r = 12 := hr.unique (HourIs.none (hbP_f (.inr (goB_half hw (by omega)))))
          subst hr12
          clear hr
          have HW := Lib.hid hw
          clear hw
          have HX := Lib.hid hx
          clear hx
          go_wp2_with fail
          refine (iWV_is4 _ HW.out).mono ?_; rintro e' w4 ⟨rfl, hw4⟩
          have hP4 := blk_next hP3 hw4
          have hB4 := bel_next hB3 hw4
          obtain ⟨cP4_0, cP4_1, fP4_0, fP4_1, zP4⟩ := blk2 hP4
          go_wp2_with fail
          refine (iHalf_is4 _ HX.out).mono ?_; rintro e' w5 ⟨rfl, hw5⟩
          have hP5 := blk_next hP4 hw5
          have hB5 := bel_next hB4 hw5
          go_wp2_with fail
          refine (alive_any _).mono ?_; rintro e' w' ⟨rfl, rfl⟩
          go_wp2
          go_ret
          exact ⟨rfl, by first | exact hB5 | exact hB5.drew⟩
        · have hg := goB_mk hw (by omega)
          have hne := hb_some g0 g1 hg hr
          have hrb := hr.bd
          have hw2 := hw
          have hg12 : (r == 12) = false := by rw [beq_eq_false_iff_ne]; exact hne
          have HR := Lib.hid hr
          clear hr hx hlt
          have HG := Lib.hid hg
          clear hg
          have HW2 := Lib.hid hw2
          clear hw2
          have HL := Lib.hid hl
          clear hl hw
          go_wp2_with fail
          refine (iHourOn_any _ _ _ _).mono ?_; rintro e' w4 ⟨s, rfl, hs, hw4⟩
          have hP4 := blk_next hP3 hw4
          have hB4 := bel_next hB3 hw4
          obtain ⟨cP4_0, cP4_1, fP4_0, fP4_1, zP4⟩ := blk2 hP4
          go_wp2_with fail
          refine (iDT_is (x := -e) (y := -n) _ HW2.out rfl rfl).mono ?_; rintro e' w5 ⟨rfl, hw5⟩
          have hP5 := blk_next hP4 hw5
          have hB5 := bel_next hB4 hw5
          obtain ⟨cP5_0, cP5_1, fP5_0, fP5_1, zP5⟩ := blk2 hP5
          go_wp2_with fail
          refine (iHourBefore_any _ _ _ _).mono ?_; rintro e' w6 ⟨t, rfl, ht, hw6⟩
          have hP6 := blk_next hP5 hw6
          have hB6 := bel_next hB5 hw6
          have hon := hb_on g0 g1 HG.out HR.out hs
          have hbk := hb_back g0 g1 HG.out HR.out ht
          have hsb := hs.bd
          have htb := ht.bd
          clear hs ht
          rcases hbk with rfl | rfl
          · rcases hon with rfl | rfl
            · go_wp2
              go_ret
              exact ⟨rfl, hB6⟩
            · go_wp2
              go_ret
              exact ⟨rfl, hB6⟩
          · rcases hon with rfl | rfl
            · have z1 : (r - 12 == r + 12) = false := by rw [beq_eq_false_iff_ne]; omega
              go_wp2
              go_ret
              exact ⟨rfl, hB6⟩
            · have z1 : (s - 12 == s + 12) = false := by rw [beq_eq_false_iff_ne]; omega
              go_wp2
              go_ret
              exact ⟨rfl, hB6⟩
    · have hl2 : laB l = false := by unfold laB; exact decide_eq_false hl
      have hr12 : r = 12 := hr.unique (HourIs.none (hbP_f (.inl hl2)))
      subst hr12
      clear hr
      clear hl2
      by_cases c1 : l < 1
      · clear hl
        go_wp2_with fail
        refine (alive_any _).mono ?_; rintro e' w' ⟨rfl, rfl⟩
        go_wp2
        go_ret
        exact ⟨rfl, by first | exact hB3 | exact hB3.drew⟩
      · have c2 : 90 < l := by omega
        clear hl
        go_wp2_with fail
        refine (alive_any _).mono ?_; rintro e' w' ⟨rfl, rfl⟩
        go_wp2
        go_ret
        exact ⟨rfl, by first | exact hB3 | exact hB3.drew⟩

set_option maxRecDepth 100000 in
theorem lifted (os : Os) (started : os.Started) (H : Type) (enc : TypeId × Value → H) :
    ReturnsInHanded {} Try.checked os 8 .any (Rows.fnHourBeforeSpec.pre6 enc Try.prog Try.f8 Rows.fnHourBeforeRow.domain false) (Rows.fnHourBeforeSpec.post enc Try.prog Try.f8 false true false false) := by
  refine returnsInHanded_of_change (C := Try.checked) own started (by kernel_rfl) Try.func8
    (ChangeSpec.witness6 (enc := enc) (C := Try.checked) false ⟨#[], #[.slice none 0 0], []⟩ 8 (by kernel_rfl) (by kernel_rfl) (by kernel_rfl) (by kernel_rfl)) ?_
  intro W base args ds gs before hval0 hW hcnd _
  have hval : ∀ (j : Nat) t v, Try.f8.params[j]? = some t → args[j]? = some v → Value.okWide Try.prog W .any base t v := hval0
  have hW' := hW
  obtain ⟨p, q, hA0, hV, rfl, hfz, hnd⟩ := hW
  have hA : DataW.TrodAll enc Try.prog W 0 (fun _ => true) true Try.f8.params.toList args.toList ds p := hA0
  rw [Try.params8] at hA hval
  obtain ⟨v0, vs0, d0, ds0, p0, q0, hargs, rfl, rfl, h0, r0⟩ := trodAll_cons hA
  obtain ⟨rfl, rfl, rfl⟩ := trodAll_nil r0
  obtain rfl : args = #[v0] := by cases args; simp_all
  obtain ⟨rfl, rfl⟩ := trodVars_none hV
  have k0 := h0
  have lt0 : ∀ x ∈ p0, x.block < W.heap.size := by obtain ⟨m, hm⟩ := k0; exact DataW.trod_lt m _ _ _ hm
  obtain ⟨a0, len0, cap0, rfl⟩ := okWide_slice Try.underlying22 (hval 0 22 v0 rfl rfl)
  have w0 : CodeOk W a0 len0 cap0 := by
    obtain ⟨fuel, hf⟩ := h0
    rcases open_ints Try.underlying22 Try.underlying5 (by kernel_rfl) hf with ⟨hcs, _⟩ | ⟨x, l, c, zs, hcs, _, hl, hm, hz, _, hcell, hwz⟩
    · simp [Value.cells] at hcs
      obtain ⟨rfl, rfl, rfl⟩ := hcs
      exact code_nil W
    · simp [Value.cells] at hcs
      obtain ⟨rfl, rfl, rfl⟩ := hcs
      exact code_ok hl hm (by simp at hz; omega) hcell hwz
  clear hA0 hval0
  refine (walk W a0 len0 cap0 w0).mono fun e W' ⟨he, bel⟩ => ?_
  subst he
  exact ⟨_, rfl, _, _, _, [], _, [], hW', trodAll_mk1 (shut_bool Try.underlying4 _), (trodAll_cons_mk (Below.trod laidOut (by kernel_rfl) (of_decide_eq_true (by kernel_rfl)) k0 bel lt0) trodAll_mk0), rfl, bel.frame _, fun h => by cases h⟩

theorem over : Rows.fnHourBeforeRow.holds Try.pinned (OpenSpec.ofChange Rows.fnHourBeforeSpec) :=
  OpenClaim.holds_of_wide 8 Try.f8 rfl rfl rfl rfl rfl rfl rfl ⟨rfl, rfl, rfl, rfl, rfl⟩ rfl rfl rfl rfl rfl (by kernel_rfl) Try.func8 (by kernel_rfl)
    (of_decide_eq_true (by kernel_rfl)) (by unfold Func.isWrapper; first | (rw [if_pos (by decide +kernel)]; kernel_rfl) | (rw [if_neg (by decide +kernel)]; exact ⟨rfl, rfl⟩))
    (fun os started H enc _ => lifted os started H enc)

/-- The statement. -/
theorem proved : Rows.FnHourBeforeSaid :=
  over
#print axioms proved
end Go.Proofs.Ytgbelpkhfaajoab.fnHourBefore
