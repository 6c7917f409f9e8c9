/- FnLeapYear: whatever the input, the law returns true, and its arguments read as they did. No conditions beyond those of the statement's row. -/
import Derived.Test.YthfehlmddlfcmaaDr1
namespace Go.Proofs.Ythfehlmddlfcmaa.fnLeapYear
open Go.Proofs.Ythfehlmddlfcmaa
open Go.ChangeShapes Go.WideShapes Go.ChangeAt Go.RowKit Go.Joins
set_option linter.unusedVariables false
set_option linter.unusedSimpArgs false

theorem own : ownKnob Try.prog.godebug = none := by kernel_rfl
theorem laidOut : laidOutB Try.prog = true := by kernel_rfl

theorem walk (w : World) (a0 : Option Addr) (len0 cap0 : Nat) (w0 : CodeOk w a0 len0 cap0) :
    Calls Try.prog 3 #[.slice a0 len0 cap0] w fun e w' => e = .returned (.bool true) ∧ Below w.heap.size w w' := by
  by_cases hl : 1048576 < len0
  · have w0' := w0.2.1
    unfold maxLen at w0'
    clear w0
    go_enter Try.func3, Try.ntmps3
    go_wp2
    go_ret
    exact ⟨rfl, Below.refl _ _⟩
  · have w0' := w0.2.1
    unfold maxLen at w0'
    have hle := w0.1
    have HW := Lib.hid w0
    clear w0
    go_enter Try.func3, Try.ntmps3
    go_wp2_with fail
    refine (drLeapYear_any _ _ _ _ HW.out).mono ?_; rintro e w1 ⟨y, rfl, y0, y1, hB1⟩
    by_cases hy : 1 ≤ y ∧ y ≤ 4000
    · cases hq : leapB y
      all_goals
        have H4 : y + 400 ≤ 4000 → leapB (y + 400) = leapB y := by
          intro h; rw [Bool.eq_iff_iff, leapB_iff, leapB_iff]; omega
        rw [hq] at H4
        have H4' := Lib.hid H4
        clear H4
        obtain ⟨hy1, hy2⟩ := hy
        go_wp2_with fail
        refine (iLeap_any _ _).mono ?_; rintro e w' ⟨rfl, rfl⟩
        go_wp2_with fail
        refine (sLeap_any _ _).mono ?_; rintro e w' ⟨rfl, rfl⟩
        go_wp2_with fail
        go_loop [5, 6] (fun c i => ∃ j n : Int, 0 ≤ j ∧ j ≤ 4 ∧ i = .int .i64 j ∧ c = .int .i64 n ∧ 0 ≤ n ∧ n ≤ 1 ∧ (n = 1 → ∃ t : Int, y ≤ t ∧ t < y + j ∧ t % 4 = 0)) (fun _ i => (4 - intOf i).toNat)
        case atStart => exact ⟨0, 0, by omega, by omega, rfl, rfl, by omega, by omega, by omega⟩
        case round =>
          obtain ⟨j, n, j0, j1, rfl, rfl, n0, n1, hn⟩ := hrel
          have HN := Lib.hid hn
          clear hn
          by_cases hj : j < 4
          · cases hc : leapB (y + j)
            · go_wp2_with (go_at_call 20; refine (iLeap_any _ _).mono ?_; rintro e w' ⟨rfl, rfl⟩)
              go_round
              case rel => exact ⟨j + 1, n, by omega, by omega, rfl, rfl, n0, n1, fun h => by obtain ⟨t, t0, t1, t2⟩ := HN.out h; exact ⟨t, t0, by omega, t2⟩⟩
              case measure => simp [intOf]; omega
            · have hm : (y + j) % 4 = 0 := by rw [leapB_iff] at hc; exact hc.2.2.1
              have hn0 : n = 0 := by
                by_cases e : n = 1
                · obtain ⟨t, t0, t1, t2⟩ := HN.out e; omega
                · omega
              have HM := Lib.hid hm
              subst hn0
              clear hm
              go_wp2_with (go_at_call 20; refine (iLeap_any _ _).mono ?_; rintro e w' ⟨rfl, rfl⟩)
              go_round
              case rel => exact ⟨j + 1, 1, by omega, by omega, rfl, rfl, by omega, by omega, fun _ => ⟨y + j, by omega, by omega, HM.out⟩⟩
              case measure => simp [intOf]; omega
          · by_cases h4 : y + 400 ≤ 4000
            · have h5 := H4'.out h4
              go_wp2_with (go_at_call 20; refine (iLeap_any _ _).mono ?_; rintro e w' ⟨rfl, rfl⟩)
              go_ret
              exact ⟨rfl, hB1⟩
            · go_wp2_with (go_at_call 20; refine (iLeap_any _ _).mono ?_; rintro e w' ⟨rfl, rfl⟩)
              go_ret
              exact ⟨rfl, hB1⟩
    · have hq : leapB y = false := by
        rw [Bool.eq_false_iff]; intro h; rw [leapB_iff] at h; omega
      have hy' : y < 1 ∨ 4000 < y := by omega
      clear hy
      rcases hy' with h1 | h1
      all_goals
        go_wp2_with (first | (go_at_call 20; refine (iLeap_any _ _).mono ?_; rintro e w' ⟨rfl, rfl⟩) | (go_at_call 21; refine (sLeap_any _ _).mono ?_; rintro e w' ⟨rfl, rfl⟩) | (go_at_call 22; refine (alive_any _).mono ?_; rintro e w' ⟨rfl, rfl⟩))
        go_ret
        exact ⟨rfl, hB1⟩

set_option maxRecDepth 100000 in
theorem lifted (os : Os) (started : os.Started) (H : Type) (enc : TypeId × Value → H) :
    ReturnsInHanded {} Try.checked os 3 .any (Rows.fnLeapYearSpec.pre6 enc Try.prog Try.f3 Rows.fnLeapYearRow.domain false) (Rows.fnLeapYearSpec.post enc Try.prog Try.f3 false true false false) := by
  refine returnsInHanded_of_change (C := Try.checked) own started (by kernel_rfl) Try.func3
    (ChangeSpec.witness6 (enc := enc) (C := Try.checked) false ⟨#[], #[.slice none 0 0], []⟩ 8 (by kernel_rfl) (by kernel_rfl) (by kernel_rfl) (by kernel_rfl)) ?_
  intro W base args ds gs before hval0 hW hcnd _
  have hval : ∀ (j : Nat) t v, Try.f3.params[j]? = some t → args[j]? = some v → Value.okWide Try.prog W .any base t v := hval0
  have hW' := hW
  obtain ⟨p, q, hA0, hV, rfl, hfz, hnd⟩ := hW
  have hA : DataW.TrodAll enc Try.prog W 0 (fun _ => true) true Try.f3.params.toList args.toList ds p := hA0
  rw [Try.params3] at hA hval
  obtain ⟨v0, vs0, d0, ds0, p0, q0, hargs, rfl, rfl, h0, r0⟩ := trodAll_cons hA
  obtain ⟨rfl, rfl, rfl⟩ := trodAll_nil r0
  obtain rfl : args = #[v0] := by cases args; simp_all
  obtain ⟨rfl, rfl⟩ := trodVars_none hV
  have k0 := h0
  have lt0 : ∀ x ∈ p0, x.block < W.heap.size := by obtain ⟨m, hm⟩ := k0; exact DataW.trod_lt m _ _ _ hm
  obtain ⟨a0, len0, cap0, rfl⟩ := okWide_slice Try.underlying22 (hval 0 22 v0 rfl rfl)
  have w0 : CodeOk W a0 len0 cap0 := by
    obtain ⟨fuel, hf⟩ := h0
    rcases open_ints Try.underlying22 Try.underlying5 (by kernel_rfl) hf with ⟨hcs, _⟩ | ⟨x, l, c, zs, hcs, _, hl, hm, hz, _, hcell, hwz⟩
    · simp [Value.cells] at hcs
      obtain ⟨rfl, rfl, rfl⟩ := hcs
      exact code_nil W
    · simp [Value.cells] at hcs
      obtain ⟨rfl, rfl, rfl⟩ := hcs
      exact code_ok hl hm (by simp at hz; omega) hcell hwz
  clear hA0 hval0
  refine (walk W a0 len0 cap0 w0).mono fun e W' ⟨he, bel⟩ => ?_
  subst he
  exact ⟨_, rfl, _, _, _, [], _, [], hW', trodAll_mk1 (shut_bool Try.underlying4 _), (trodAll_cons_mk (Below.trod laidOut (by kernel_rfl) (of_decide_eq_true (by kernel_rfl)) k0 bel lt0) trodAll_mk0), rfl, bel.frame _, fun h => by cases h⟩

theorem over : Rows.fnLeapYearRow.holds Try.pinned (OpenSpec.ofChange Rows.fnLeapYearSpec) :=
  OpenClaim.holds_of_wide 3 Try.f3 rfl rfl rfl rfl rfl rfl rfl ⟨rfl, rfl, rfl, rfl, rfl⟩ rfl rfl rfl rfl rfl (by kernel_rfl) Try.func3 (by kernel_rfl)
    (of_decide_eq_true (by kernel_rfl)) (by unfold Func.isWrapper; first | (rw [if_pos (by decide +kernel)]; kernel_rfl) | (rw [if_neg (by decide +kernel)]; exact ⟨rfl, rfl⟩))
    (fun os started H enc _ => lifted os started H enc)

/-- The statement. -/
theorem proved : Rows.FnLeapYearSaid :=
  over
#print axioms proved
end Go.Proofs.Ythfehlmddlfcmaa.fnLeapYear
