/- FnDayOfYear: whatever the input, the law returns true, and its arguments read as they did. No conditions beyond those of the statement's row. -/
import Derived.Test.YthfehlmddlfcmaaDr1
import Derived.Test.YthfehlmddlfcmaaCb
namespace Go.Proofs.Ythfehlmddlfcmaa.fnDayOfYear
open Go.Proofs.Ythfehlmddlfcmaa
open Go.ChangeShapes Go.WideShapes Go.ChangeAt Go.RowKit Go.Joins
set_option linter.unusedVariables false
set_option linter.unusedSimpArgs false

theorem own : ownKnob Try.prog.godebug = none := by kernel_rfl
theorem laidOut : laidOutB Try.prog = true := by kernel_rfl

set_option maxRecDepth 100000 in
set_option maxHeartbeats 4000000 in
theorem walk (w : World) (a0 : Option Addr) (len0 cap0 : Nat) (w0 : CodeOk w a0 len0 cap0) :
    Calls Try.prog 10 #[.slice a0 len0 cap0] w fun e w' => e = .returned (.bool true) ∧ Below w.heap.size w w' := by
  by_cases hl : 1048576 < len0
  · have w0' := w0.2.1
    unfold maxLen at w0'
    clear w0
    go_enter Try.func10, Try.ntmps10
    go_wp2
    go_ret
    exact ⟨rfl, Below.refl _ _⟩
  · have w0' := w0.2.1
    unfold maxLen at w0'
    have hle := w0.1
    have HW := Lib.hid w0
    clear w0
    go_enter Try.func10, Try.ntmps10
    go_wp2_with fail
    refine (drDayOfYear_any _ _ _ _ HW.out).mono ?_; rintro e w1 ⟨y, m, d, rfl, y0, y1, m0, m1, d0, d1, hB1⟩
    cases hv : valB y m d
    · go_wp2_with fail
      refine (iDOY_f _ _ _ _ hv).mono ?_; rintro e w2 ⟨rfl, hw2⟩
      obtain ⟨hD2, hC2⟩ := ownb hw2
      have hB2 := bel_next hB1 hC2
      obtain ⟨d2_0, d2_1, d2_2, d2f_0, d2f_1, d2f_2, d2z⟩ := blk3 hD2
      go_wp2_with fail
      refine (sDOY_f _ _ _ _ hv).mono ?_; rintro e w3 ⟨rfl, hw3⟩
      have hD3 := blk_next hD2 hw3
      have hB3 := bel_next hB2 hw3
      obtain ⟨d3_0, d3_1, d3_2, d3f_0, d3f_1, d3f_2, d3z⟩ := blk3 hD3
      clear d2_0 d2_1 d2_2 d2f_0 d2f_1 d2f_2
      go_wp2_with fail
      refine (iDV_any _ _ _ _).mono ?_; rintro e w4 ⟨rfl, hw4⟩
      have hB4 := bel_next hB3 hw4
      go_wp2_with fail
      refine (alive_any _).mono ?_; rintro e w' ⟨rfl, rfl⟩
      go_wp2
      go_ret
      exact ⟨rfl, hB4⟩
    · obtain ⟨h1, h2, h3, h4, h5, h6⟩ := valB_in hv
      have hd := dim_le m (leapB y)
      have cbm := cum_bd m (leapB y) h3 h4
      have e0 : (cum m (leapB y) + d == 0) = false := by rw [beq_eq_false_iff_ne]; omega
      go_wp2_with fail
      refine (iDOY_t _ _ _ _ hv).mono ?_; rintro e w2 ⟨rfl, hw2⟩
      obtain ⟨hD2, hC2⟩ := ownb hw2
      have hB2 := bel_next hB1 hC2
      obtain ⟨d2_0, d2_1, d2_2, d2f_0, d2f_1, d2f_2, d2z⟩ := blk3 hD2
      go_wp2_with fail
      refine (sDOY_t _ _ _ _ hv).mono ?_; rintro e w3 ⟨rfl, hw3⟩
      have hD3 := blk_next hD2 hw3
      have hB3 := bel_next hB2 hw3
      obtain ⟨d3_0, d3_1, d3_2, d3f_0, d3f_1, d3f_2, d3z⟩ := blk3 hD3
      clear d2_0 d2_1 d2_2 d2f_0 d2f_1 d2f_2
      go_wp2_with fail
      go_loop [5, 6] (fun s b => ∃ k : Int, 1 ≤ k ∧ k ≤ m ∧ b = .int .i64 k ∧ s = .int .i64 (d + cum k (leapB y))) (fun _ b => (m - intOf b).toNat)
      case atStart => exact ⟨1, by omega, by omega, rfl, congrArg (Value.int .i64) (by rw [cum_one]; omega)⟩
      case round =>
        obtain ⟨k, k0, k1, rfl, rfl⟩ := hrel
        have cb := cum_bd k (leapB y) k0 (by omega)
        by_cases hk : k < m
        · have db := ml_le y k
          have he := Lib.hid (show ml y k = dim k (leapB y) by rw [ml, if_pos ⟨h1, h2⟩])
          have hs := Lib.hid (cum_succ k (leapB y) k0 (by omega))
          go_wp2_with (go_at_call 27; refine (iML_any _ _ _).mono ?_; rintro e w' ⟨rfl, rfl⟩)
          go_round
          case rel => exact ⟨k + 1, by omega, by omega, rfl, congrArg (Value.int .i64) (by have e1 := he.out; have e2 := hs.out; omega)⟩
          case measure => simp [intOf]; omega
        · obtain rfl : k = m := by omega
          have e3 : (d + cum k (leapB y) == cum k (leapB y) + d) = true := by rw [beq_iff_eq]; omega
          have e4 : cum k (leapB y) + d ≤ yl y := by
            have := cum_mono k 13 (leapB y) (by omega) (by omega) (by omega)
            rw [cum_13] at this
            unfold yl; rw [if_pos ⟨h1, h2⟩]
            split at this <;> split <;> omega
          go_wp2_with fail
          refine (iYL_any _ _).mono ?_; rintro e w' ⟨rfl, rfl⟩
          go_wp2
          all_goals go_ret
          all_goals exact ⟨ret_bool (by first | rfl | (simp; omega)), hB3⟩

set_option maxRecDepth 100000 in
theorem lifted (os : Os) (started : os.Started) (H : Type) (enc : TypeId × Value → H) :
    ReturnsInHanded {} Try.checked os 10 .any (Rows.fnDayOfYearSpec.pre6 enc Try.prog Try.f10 Rows.fnDayOfYearRow.domain false) (Rows.fnDayOfYearSpec.post enc Try.prog Try.f10 false true false false) := by
  refine returnsInHanded_of_change (C := Try.checked) own started (by kernel_rfl) Try.func10
    (ChangeSpec.witness6 (enc := enc) (C := Try.checked) false ⟨#[], #[.slice none 0 0], []⟩ 8 (by kernel_rfl) (by kernel_rfl) (by kernel_rfl) (by kernel_rfl)) ?_
  intro W base args ds gs before hval0 hW hcnd _
  have hval : ∀ (j : Nat) t v, Try.f10.params[j]? = some t → args[j]? = some v → Value.okWide Try.prog W .any base t v := hval0
  have hW' := hW
  obtain ⟨p, q, hA0, hV, rfl, hfz, hnd⟩ := hW
  have hA : DataW.TrodAll enc Try.prog W 0 (fun _ => true) true Try.f10.params.toList args.toList ds p := hA0
  rw [Try.params10] at hA hval
  obtain ⟨v0, vs0, d0, ds0, p0, q0, hargs, rfl, rfl, h0, r0⟩ := trodAll_cons hA
  obtain ⟨rfl, rfl, rfl⟩ := trodAll_nil r0
  obtain rfl : args = #[v0] := by cases args; simp_all
  obtain ⟨rfl, rfl⟩ := trodVars_none hV
  have k0 := h0
  have lt0 : ∀ x ∈ p0, x.block < W.heap.size := by obtain ⟨m, hm⟩ := k0; exact DataW.trod_lt m _ _ _ hm
  obtain ⟨a0, len0, cap0, rfl⟩ := okWide_slice Try.underlying22 (hval 0 22 v0 rfl rfl)
  have w0 : CodeOk W a0 len0 cap0 := by
    obtain ⟨fuel, hf⟩ := h0
    rcases open_ints Try.underlying22 Try.underlying5 (by kernel_rfl) hf with ⟨hcs, _⟩ | ⟨x, l, c, zs, hcs, _, hl, hm, hz, _, hcell, hwz⟩
    · simp [Value.cells] at hcs
      obtain ⟨rfl, rfl, rfl⟩ := hcs
      exact code_nil W
    · simp [Value.cells] at hcs
      obtain ⟨rfl, rfl, rfl⟩ := hcs
      exact code_ok hl hm (by simp at hz; omega) hcell hwz
  clear hA0 hval0
  refine (walk W a0 len0 cap0 w0).mono fun e W' ⟨he, bel⟩ => ?_
  subst he
  exact ⟨_, rfl, _, _, _, [], _, [], hW', trodAll_mk1 (shut_bool Try.underlying4 _), (trodAll_cons_mk (Below.trod laidOut (by kernel_rfl) (of_decide_eq_true (by kernel_rfl)) k0 bel lt0) trodAll_mk0), rfl, bel.frame _, fun h => by cases h⟩

theorem over : Rows.fnDayOfYearRow.holds Try.pinned (OpenSpec.ofChange Rows.fnDayOfYearSpec) :=
  OpenClaim.holds_of_wide 10 Try.f10 rfl rfl rfl rfl rfl rfl rfl ⟨rfl, rfl, rfl, rfl, rfl⟩ rfl rfl rfl rfl rfl (by kernel_rfl) Try.func10 (by kernel_rfl)
    (of_decide_eq_true (by kernel_rfl)) (by unfold Func.isWrapper; first | (rw [if_pos (by decide +kernel)]; kernel_rfl) | (rw [if_neg (by decide +kernel)]; exact ⟨rfl, rfl⟩))
    (fun os started H enc _ => lifted os started H enc)

/-- The statement. -/
theorem proved : Rows.FnDayOfYearSaid :=
  over
#print axioms proved
end Go.Proofs.Ythfehlmddlfcmaa.fnDayOfYear
