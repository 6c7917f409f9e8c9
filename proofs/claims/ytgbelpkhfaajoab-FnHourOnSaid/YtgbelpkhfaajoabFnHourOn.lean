/- FnHourOn: whatever the input, the law returns true, and its arguments read as they did. No conditions beyond those of the statement's row. -/
import Derived.Test.YtgbelpkhfaajoabHs
import Derived.Test.YtgbelpkhfaajoabHi
import Derived.Test.YtgbelpkhfaajoabDh
import Derived.Test.YtgbelpkhfaajoabLp
namespace Go.Proofs.Ytgbelpkhfaajoab.fnHourOn
open Go.Proofs.Ytgbelpkhfaajoab
open Go.ChangeShapes Go.WideShapes Go.ChangeAt Go.RowKit Go.Joins
set_option linter.unusedVariables false
set_option linter.unusedSimpArgs false
set_option linter.unnecessarySimpa false

theorem own : ownKnob Try.prog.godebug = none := by kernel_rfl
theorem laidOut : laidOutB Try.prog = true := by kernel_rfl

set_option maxRecDepth 100000 in
set_option maxHeartbeats 4000000 in
theorem walk (w : World) (a0 : Option Addr) (len0 cap0 : Nat) (w0 : CodeOk w a0 len0 cap0) :
    Calls Try.prog 7 #[.slice a0 len0 cap0] w fun e w' => e = .returned (.bool true) ∧ Below w.heap.size w w' := by
  by_cases hl : 1048576 < len0
  · have w0' := w0.2.1
    unfold maxLen at w0'
    clear w0
    go_enter Try.func7, Try.ntmps7
    go_wp2
    go_ret
    exact ⟨rfl, Below.refl _ _⟩
  · have w0' := w0.2.1
    unfold maxLen at w0'
    have hle := w0.1
    have HW := Lib.hid w0
    clear w0
    go_enter Try.func7, Try.ntmps7
    go_wp2_with fail
    refine (drHourOn_any _ _ _ _ HW.out).mono ?_; rintro e' w1 ⟨l, e, n, rfl, l0, l1, e0, e1, n0, n1, hB0⟩
    have hB0 := hB0
    have hP1 := blk_new w1 (.cells #[.int .i64 e, .int .i64 n] 30)
    have hB1 := hB0.alloc hB0.size (.cells #[.int .i64 e, .int .i64 n] 30)
    obtain ⟨cP1_0, cP1_1, fP1_0, fP1_1, zP1⟩ := blk2 hP1
    go_wp2_with fail
    refine (iHourOn_any _ _ _ _).mono ?_; rintro e' w2 ⟨r, rfl, hr, hw2⟩
    have hP2 := blk_next hP1 hw2
    have hB2 := bel_next hB1 hw2
    obtain ⟨cP2_0, cP2_1, fP2_0, fP2_1, zP2⟩ := blk2 hP2
    go_wp2_with fail
    refine (sHourOn_any _ _ _ _).mono ?_; rintro e' w3 ⟨q, rfl, hq, hw3⟩
    have hP3 := blk_next hP2 hw3
    have hB3 := bel_next hB2 hw3
    obtain rfl := hr.unique hq
    clear hq
    have HR := Lib.hid hr
    have hrb := hr.bd
    clear hr
    cases hl : laB l
    · have HL := Lib.hid hl
      have HN := Lib.hid (fun k => (show laB l = false ∨ (laB l = true ∧ hrB k = false) from .inl hl))
      have hr12 : r = 12 := HR.out.unique (HourIs.none (hoP_f (.inl hl)))
      clear hl
      subst hr12
      go_wp2_with fail
      go_loopw [6] (fun v wr => ∃ k : Int, v = .int .i64 k ∧ -12 ≤ k ∧ k ≤ 12 ∧ wr.heap[w1.heap.size]? = some (.cells #[.int .i64 e, .int .i64 n] 30) ∧ Below w.heap.size w wr) (fun v _ => (12 - intOf v).toNat)
      case atStart => exact ⟨-12, rfl, by omega, by omega, hP3, hB3⟩
      case round =>
        obtain ⟨k, rfl, k0, k1, hPr, hBr⟩ := hrel
        by_cases hlt : k < 12
        · have hB0 := hBr
          have hP0 := hPr
          go_wp2_with fail
          refine (iLn_f _ _ _ (.inl HL.out)).mono ?_; rintro e' w1 ⟨rfl, hw1⟩
          have hP1 := blk_next hP0 hw1
          have hB1 := bel_next hB0 hw1
          have hC2 := blk_new w1 (.cells #[.int .i64 0, .int .i64 0] 30)
          have hP2 := blk_old hP1 (.cells #[.int .i64 0, .int .i64 0] 30)
          have hB2 := hB1.alloc hB1.size (.cells #[.int .i64 0, .int .i64 0] 30)
          go_wp2_with fail
          go_roundw
          case rel => exact ⟨k + 1, rfl, by omega, by omega, hP2, hB2⟩
          case measure => simp [intOf]; omega
        · go_wp2_with fail
          refine (alive_any _).mono ?_; rintro e' w' ⟨rfl, rfl⟩
          go_wp2
          go_ret
          exact ⟨rfl, hBr⟩
    · obtain ⟨g0, g1⟩ := laB_iff.1 hl
      have HL := Lib.hid hl
      clear hl
      go_wp2_with fail
      go_loopw [6] (fun v wr => ∃ k : Int, v = .int .i64 k ∧ -12 ≤ k ∧ k ≤ 12 ∧ wr.heap[w1.heap.size]? = some (.cells #[.int .i64 e, .int .i64 n] 30) ∧ Below w.heap.size w wr) (fun v _ => (12 - intOf v).toNat)
      case atStart => exact ⟨-12, rfl, by omega, by omega, hP3, hB3⟩
      case round =>
        obtain ⟨k, rfl, k0, k1, hPr, hBr⟩ := hrel
        by_cases hlt : k < 12
        · have hh : hrB k = true := hrB_iff.2 (by omega)
          have HH := Lib.hid hh
          clear hh
          have hB0 := hBr
          have hP0 := hPr
          go_wp2_with fail
          refine (iLn_t _ _ _ HL.out HH.out).mono ?_; rintro e' w1 ⟨rfl, hw1⟩
          have hP1 := blk_next hP0 hw1
          have hB1 := bel_next hB0 hw1
          have hC2 := blk_new w1 (.cells #[.int .i64 (lnE l k), .int .i64 (lnN k)] 30)
          have hP2 := blk_old hP1 (.cells #[.int .i64 (lnE l k), .int .i64 (lnN k)] 30)
          have hB2 := hB1.alloc hB1.size (.cells #[.int .i64 (lnE l k), .int .i64 (lnN k)] 30)
          obtain ⟨cC2_0, cC2_1, fC2_0, fC2_1, zC2⟩ := blk2 hC2
          obtain ⟨cP2_0, cP2_1, fP2_0, fP2_1, zP2⟩ := blk2 hP2
          go_wp2_with fail
          refine (iHourOn_any _ _ _ _).mono ?_; rintro e' w3 ⟨s, rfl, hs, hw3⟩
          have hP3 := blk_next hP2 hw3
          have hC3 := blk_next hC2 hw3
          have hB3 := bel_next hB2 hw3
          obtain rfl := ho_line g0 g1 k0 (by omega) hs
          clear hs
          go_wp2_with fail
          go_roundw
          case rel => exact ⟨s + 1, rfl, by omega, by omega, hP3, hB3⟩
          case measure => simp [intOf]; omega
        · by_cases h12 : r = 12
          · subst h12
            go_wp2_with fail
            refine (alive_any _).mono ?_; rintro e' w' ⟨rfl, rfl⟩
            go_wp2
            go_ret
            exact ⟨rfl, hBr⟩
          · obtain ⟨r0, r1, hp⟩ := HR.out.holds h12
            have hx := hp
            rw [hoP_in g0 g1 e0 e1 n0 n1] at hx
            unfold onB at hx
            rw [decide_eq_true_iff] at hx
            obtain ⟨hx, hy⟩ := hx
            obtain ⟨b0, b1, b2, b3⟩ := ln_bd l r
            obtain ⟨E, he⟩ : ∃ z_ : Int, lnE l r = z_ := ⟨_, rfl⟩
            obtain ⟨N, hn⟩ : ∃ z_ : Int, lnN r = z_ := ⟨_, rfl⟩
            rw [he] at b0 b1 hx hy
            rw [hn] at b2 b3 hx hy
            rw [← crossW_in ⟨b0, b1⟩ ⟨b2, b3⟩ ⟨e0, e1⟩ ⟨n0, n1⟩] at hx
            rw [← dotW_in ⟨b0, b1⟩ ⟨b2, b3⟩ ⟨e0, e1⟩ ⟨n0, n1⟩] at hy
            obtain ⟨y, hd⟩ : ∃ z_ : Int, dotW E N e n = z_ := ⟨_, rfl⟩
            rw [hd] at hy
            have hgt := hy
            have hy := hd
            clear hd hp
            have hh : hrB r = true := hrB_iff.2 ⟨r0, r1⟩
            have d12 : (r == 12) = false := by rw [beq_eq_false_iff_ne]; exact h12
            have HE := Lib.hid he
            clear he
            have HN := Lib.hid hn
            clear hn
            have HX := Lib.hid hx
            clear hx
            have HY := Lib.hid hy
            clear hy
            have HH := Lib.hid hh
            clear hh
            have hB0 := hBr
            have hP0 := hPr
            go_wp2_with fail
            refine (iLn_is _ HL.out HH.out HE.out HN.out).mono ?_; rintro e' w1 ⟨rfl, hw1⟩
            have hP1 := blk_next hP0 hw1
            have hB1 := bel_next hB0 hw1
            have hC2 := blk_new w1 (.cells #[.int .i64 E, .int .i64 N] 30)
            have hP2 := blk_old hP1 (.cells #[.int .i64 E, .int .i64 N] 30)
            have hB2 := hB1.alloc hB1.size (.cells #[.int .i64 E, .int .i64 N] 30)
            obtain ⟨cP2_0, cP2_1, fP2_0, fP2_1, zP2⟩ := blk2 hP2
            obtain ⟨cC2_0, cC2_1, fC2_0, fC2_1, zC2⟩ := blk2 hC2
            go_wp2_with fail
            refine (iCroH_is _ HX.out).mono ?_; rintro e' w3 ⟨rfl, hw3⟩
            have hP3 := blk_next hP2 hw3
            have hC3 := blk_next hC2 hw3
            have hB3 := bel_next hB2 hw3
            obtain ⟨cP3_0, cP3_1, fP3_0, fP3_1, zP3⟩ := blk2 hP3
            obtain ⟨cC3_0, cC3_1, fC3_0, fC3_1, zC3⟩ := blk2 hC3
            go_wp2_with fail
            refine (iDotH_is _ HY.out).mono ?_; rintro e' w4 ⟨rfl, hw4⟩
            have hP4 := blk_next hP3 hw4
            have hC4 := blk_next hC3 hw4
            have hB4 := bel_next hB3 hw4
            go_wp2
            go_ret
            exact ⟨rfl, by first | exact hB4 | exact hB4.drew⟩

set_option maxRecDepth 100000 in
theorem lifted (os : Os) (started : os.Started) (H : Type) (enc : TypeId × Value → H) :
    ReturnsInHanded {} Try.checked os 7 .any (Rows.fnHourOnSpec.pre6 enc Try.prog Try.f7 Rows.fnHourOnRow.domain false) (Rows.fnHourOnSpec.post enc Try.prog Try.f7 false true false false) := by
  refine returnsInHanded_of_change (C := Try.checked) own started (by kernel_rfl) Try.func7
    (ChangeSpec.witness6 (enc := enc) (C := Try.checked) false ⟨#[], #[.slice none 0 0], []⟩ 8 (by kernel_rfl) (by kernel_rfl) (by kernel_rfl) (by kernel_rfl)) ?_
  intro W base args ds gs before hval0 hW hcnd _
  have hval : ∀ (j : Nat) t v, Try.f7.params[j]? = some t → args[j]? = some v → Value.okWide Try.prog W .any base t v := hval0
  have hW' := hW
  obtain ⟨p, q, hA0, hV, rfl, hfz, hnd⟩ := hW
  have hA : DataW.TrodAll enc Try.prog W 0 (fun _ => true) true Try.f7.params.toList args.toList ds p := hA0
  rw [Try.params7] at hA hval
  obtain ⟨v0, vs0, d0, ds0, p0, q0, hargs, rfl, rfl, h0, r0⟩ := trodAll_cons hA
  obtain ⟨rfl, rfl, rfl⟩ := trodAll_nil r0
  obtain rfl : args = #[v0] := by cases args; simp_all
  obtain ⟨rfl, rfl⟩ := trodVars_none hV
  have k0 := h0
  have lt0 : ∀ x ∈ p0, x.block < W.heap.size := by obtain ⟨m, hm⟩ := k0; exact DataW.trod_lt m _ _ _ hm
  obtain ⟨a0, len0, cap0, rfl⟩ := okWide_slice Try.underlying22 (hval 0 22 v0 rfl rfl)
  have w0 : CodeOk W a0 len0 cap0 := by
    obtain ⟨fuel, hf⟩ := h0
    rcases open_ints Try.underlying22 Try.underlying5 (by kernel_rfl) hf with ⟨hcs, _⟩ | ⟨x, l, c, zs, hcs, _, hl, hm, hz, _, hcell, hwz⟩
    · simp [Value.cells] at hcs
      obtain ⟨rfl, rfl, rfl⟩ := hcs
      exact code_nil W
    · simp [Value.cells] at hcs
      obtain ⟨rfl, rfl, rfl⟩ := hcs
      exact code_ok hl hm (by simp at hz; omega) hcell hwz
  clear hA0 hval0
  refine (walk W a0 len0 cap0 w0).mono fun e W' ⟨he, bel⟩ => ?_
  subst he
  exact ⟨_, rfl, _, _, _, [], _, [], hW', trodAll_mk1 (shut_bool Try.underlying4 _), (trodAll_cons_mk (Below.trod laidOut (by kernel_rfl) (of_decide_eq_true (by kernel_rfl)) k0 bel lt0) trodAll_mk0), rfl, bel.frame _, fun h => by cases h⟩

theorem over : Rows.fnHourOnRow.holds Try.pinned (OpenSpec.ofChange Rows.fnHourOnSpec) :=
  OpenClaim.holds_of_wide 7 Try.f7 rfl rfl rfl rfl rfl rfl rfl ⟨rfl, rfl, rfl, rfl, rfl⟩ rfl rfl rfl rfl rfl (by kernel_rfl) Try.func7 (by kernel_rfl)
    (of_decide_eq_true (by kernel_rfl)) (by unfold Func.isWrapper; first | (rw [if_pos (by decide +kernel)]; kernel_rfl) | (rw [if_neg (by decide +kernel)]; exact ⟨rfl, rfl⟩))
    (fun os started H enc _ => lifted os started H enc)

/-- The statement. -/
theorem proved : Rows.FnHourOnSaid :=
  over
#print axioms proved
end Go.Proofs.Ytgbelpkhfaajoab.fnHourOn
