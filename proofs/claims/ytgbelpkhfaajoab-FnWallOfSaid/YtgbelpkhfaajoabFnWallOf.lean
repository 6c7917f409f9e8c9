/- FnWallOf: whatever the input, the law returns true, and its arguments read as they did. No conditions beyond those of the statement's row. -/
import Derived.Test.YtgbelpkhfaajoabHi
import Derived.Test.YtgbelpkhfaajoabDh
import Derived.Test.YtgbelpkhfaajoabLp
namespace Go.Proofs.Ytgbelpkhfaajoab.fnWallOf
open Go.Proofs.Ytgbelpkhfaajoab
open Go.ChangeShapes Go.WideShapes Go.ChangeAt Go.RowKit Go.Joins
set_option linter.unusedVariables false
set_option linter.unusedSimpArgs false
set_option linter.unnecessarySimpa false

theorem own : ownKnob Try.prog.godebug = none := by kernel_rfl
theorem laidOut : laidOutB Try.prog = true := by kernel_rfl

set_option maxRecDepth 100000 in
set_option maxHeartbeats 4000000 in
theorem walk (w : World) (a0 : Option Addr) (len0 cap0 : Nat) (w0 : CodeOk w a0 len0 cap0) :
    Calls Try.prog 5 #[.slice a0 len0 cap0] w fun e w' => e = .returned (.bool true) ∧ Below w.heap.size w w' := by
  by_cases hl : 1048576 < len0
  · have w0' := w0.2.1
    unfold maxLen at w0'
    clear w0
    go_enter Try.func5, Try.ntmps5
    go_wp2
    go_ret
    exact ⟨rfl, Below.refl _ _⟩
  · have w0' := w0.2.1
    unfold maxLen at w0'
    have hle := w0.1
    have HW := Lib.hid w0
    clear w0
    go_enter Try.func5, Try.ntmps5
    go_wp2_with fail
    refine (drWallOf_any _ _ _ _ HW.out).mono ?_; rintro e' w1 ⟨l, h, rfl, l0, l1, h0, h1, hB0⟩
    cases hl : waB l
    · have HN := Lib.hid (show waB l = false ∨ (waB l = true ∧ hrB h = false) from .inl hl)
      have HN2 := Lib.hid (show laB (90 - l) = false ∨ (laB (90 - l) = true ∧ hrB h = false) by rw [la_90]; exact HN.out)
      clear hl
      have hB0 := hB0
      go_wp2_with fail
      refine (iWl_f _ _ _ HN.out).mono ?_; rintro e' w1 ⟨rfl, hw1⟩
      have hB1 := bel_next hB0 hw1
      have hA2 := blk_new w1 (.cells #[.int .i64 0, .int .i64 0] 30)
      have hB2 := hB1.alloc hB1.size (.cells #[.int .i64 0, .int .i64 0] 30)
      go_wp2_with fail
      refine (sWl_f _ _ _ HN.out).mono ?_; rintro e' w3 ⟨rfl, hw3⟩
      have hA3 := blk_next hA2 hw3
      have hB3 := bel_next hB2 hw3
      have hD4 := blk_new w3 (.cells #[.int .i64 0, .int .i64 0] 30)
      have hA4 := blk_old hA3 (.cells #[.int .i64 0, .int .i64 0] 30)
      have hB4 := hB3.alloc hB3.size (.cells #[.int .i64 0, .int .i64 0] 30)
      obtain ⟨cA4_0, cA4_1, fA4_0, fA4_1, zA4⟩ := blk2 hA4
      obtain ⟨cD4_0, cD4_1, fD4_0, fD4_1, zD4⟩ := blk2 hD4
      go_wp2_with fail
      refine (iLn_f _ _ _ HN2.out).mono ?_; rintro e' w5 ⟨rfl, hw5⟩
      have hA5 := blk_next hA4 hw5
      have hD5 := blk_next hD4 hw5
      have hB5 := bel_next hB4 hw5
      have hC6 := blk_new w5 (.cells #[.int .i64 0, .int .i64 0] 30)
      have hA6 := blk_old hA5 (.cells #[.int .i64 0, .int .i64 0] 30)
      have hB6 := hB5.alloc hB5.size (.cells #[.int .i64 0, .int .i64 0] 30)
      obtain ⟨cA6_0, cA6_1, fA6_0, fA6_1, zA6⟩ := blk2 hA6
      obtain ⟨cC6_0, cC6_1, fC6_0, fC6_1, zC6⟩ := blk2 hC6
      go_wp2_with fail
      refine (alive_any _).mono ?_; rintro e' w' ⟨rfl, rfl⟩
      go_wp2
      go_ret
      exact ⟨rfl, by first | exact hB6 | exact hB6.drew⟩
    · cases hh : hrB h
      · have HN := Lib.hid (show waB l = false ∨ (waB l = true ∧ hrB h = false) from .inr ⟨hl, hh⟩)
        have HN2 := Lib.hid (show laB (90 - l) = false ∨ (laB (90 - l) = true ∧ hrB h = false) by rw [la_90]; exact HN.out)
        clear hl hh
        have hB0 := hB0
        go_wp2_with fail
        refine (iWl_f _ _ _ HN.out).mono ?_; rintro e' w1 ⟨rfl, hw1⟩
        have hB1 := bel_next hB0 hw1
        have hA2 := blk_new w1 (.cells #[.int .i64 0, .int .i64 0] 30)
        have hB2 := hB1.alloc hB1.size (.cells #[.int .i64 0, .int .i64 0] 30)
        go_wp2_with fail
        refine (sWl_f _ _ _ HN.out).mono ?_; rintro e' w3 ⟨rfl, hw3⟩
        have hA3 := blk_next hA2 hw3
        have hB3 := bel_next hB2 hw3
        have hD4 := blk_new w3 (.cells #[.int .i64 0, .int .i64 0] 30)
        have hA4 := blk_old hA3 (.cells #[.int .i64 0, .int .i64 0] 30)
        have hB4 := hB3.alloc hB3.size (.cells #[.int .i64 0, .int .i64 0] 30)
        obtain ⟨cA4_0, cA4_1, fA4_0, fA4_1, zA4⟩ := blk2 hA4
        obtain ⟨cD4_0, cD4_1, fD4_0, fD4_1, zD4⟩ := blk2 hD4
        go_wp2_with fail
        refine (iLn_f _ _ _ HN2.out).mono ?_; rintro e' w5 ⟨rfl, hw5⟩
        have hA5 := blk_next hA4 hw5
        have hD5 := blk_next hD4 hw5
        have hB5 := bel_next hB4 hw5
        have hC6 := blk_new w5 (.cells #[.int .i64 0, .int .i64 0] 30)
        have hA6 := blk_old hA5 (.cells #[.int .i64 0, .int .i64 0] 30)
        have hB6 := hB5.alloc hB5.size (.cells #[.int .i64 0, .int .i64 0] 30)
        obtain ⟨cA6_0, cA6_1, fA6_0, fA6_1, zA6⟩ := blk2 hA6
        obtain ⟨cC6_0, cC6_1, fC6_0, fC6_1, zC6⟩ := blk2 hC6
        go_wp2_with fail
        refine (alive_any _).mono ?_; rintro e' w' ⟨rfl, rfl⟩
        go_wp2
        go_ret
        exact ⟨rfl, by first | exact hB6 | exact hB6.drew⟩
      · obtain ⟨E, he⟩ : ∃ z_ : Int, wlE l h = z_ := ⟨_, rfl⟩
        obtain ⟨N, hn⟩ : ∃ z_ : Int, wlN h = z_ := ⟨_, rfl⟩
        obtain ⟨b0, b1, b2, b3⟩ := wl_bd l h
        rw [he] at b0 b1
        rw [hn] at b2 b3
        have e2 : lnE (90 - l) h = E := by rw [← (wl_ln l h).1, he]
        have n2 : lnN h = -N := by have := (wl_ln l h).2; rw [hn] at this; omega
        have r2 : laB (90 - l) = true := by rw [la_90]; exact hl
        have nn : -(-N) = N := by omega
        have HL := Lib.hid hl
        clear hl
        have HH := Lib.hid hh
        clear hh
        have HE := Lib.hid he
        clear he
        have HN := Lib.hid hn
        clear hn
        have E2 := Lib.hid e2
        clear e2
        have N2 := Lib.hid n2
        clear n2
        have R2 := Lib.hid r2
        clear r2
        have hB0 := hB0
        go_wp2_with fail
        refine (iWl_is _ HL.out HH.out HE.out HN.out).mono ?_; rintro e' w1 ⟨rfl, hw1⟩
        have hB1 := bel_next hB0 hw1
        have hA2 := blk_new w1 (.cells #[.int .i64 E, .int .i64 N] 30)
        have hB2 := hB1.alloc hB1.size (.cells #[.int .i64 E, .int .i64 N] 30)
        go_wp2_with fail
        refine (sWl_is _ HL.out HH.out HE.out HN.out).mono ?_; rintro e' w3 ⟨rfl, hw3⟩
        have hA3 := blk_next hA2 hw3
        have hB3 := bel_next hB2 hw3
        have hD4 := blk_new w3 (.cells #[.int .i64 E, .int .i64 N] 30)
        have hA4 := blk_old hA3 (.cells #[.int .i64 E, .int .i64 N] 30)
        have hB4 := hB3.alloc hB3.size (.cells #[.int .i64 E, .int .i64 N] 30)
        obtain ⟨cA4_0, cA4_1, fA4_0, fA4_1, zA4⟩ := blk2 hA4
        obtain ⟨cD4_0, cD4_1, fD4_0, fD4_1, zD4⟩ := blk2 hD4
        go_wp2_with fail
        refine (iLn_is _ R2.out HH.out E2.out N2.out).mono ?_; rintro e' w5 ⟨rfl, hw5⟩
        have hA5 := blk_next hA4 hw5
        have hD5 := blk_next hD4 hw5
        have hB5 := bel_next hB4 hw5
        have hC6 := blk_new w5 (.cells #[.int .i64 E, .int .i64 (-N)] 30)
        have hA6 := blk_old hA5 (.cells #[.int .i64 E, .int .i64 (-N)] 30)
        have hB6 := hB5.alloc hB5.size (.cells #[.int .i64 E, .int .i64 (-N)] 30)
        obtain ⟨cA6_0, cA6_1, fA6_0, fA6_1, zA6⟩ := blk2 hA6
        obtain ⟨cC6_0, cC6_1, fC6_0, fC6_1, zC6⟩ := blk2 hC6
        go_wp2
        go_ret
        exact ⟨rfl, by first | exact hB6 | exact hB6.drew⟩

set_option maxRecDepth 100000 in
theorem lifted (os : Os) (started : os.Started) (H : Type) (enc : TypeId × Value → H) :
    ReturnsInHanded {} Try.checked os 5 .any (Rows.fnWallOfSpec.pre6 enc Try.prog Try.f5 Rows.fnWallOfRow.domain false) (Rows.fnWallOfSpec.post enc Try.prog Try.f5 false true false false) := by
  refine returnsInHanded_of_change (C := Try.checked) own started (by kernel_rfl) Try.func5
    (ChangeSpec.witness6 (enc := enc) (C := Try.checked) false ⟨#[], #[.slice none 0 0], []⟩ 8 (by kernel_rfl) (by kernel_rfl) (by kernel_rfl) (by kernel_rfl)) ?_
  intro W base args ds gs before hval0 hW hcnd _
  have hval : ∀ (j : Nat) t v, Try.f5.params[j]? = some t → args[j]? = some v → Value.okWide Try.prog W .any base t v := hval0
  have hW' := hW
  obtain ⟨p, q, hA0, hV, rfl, hfz, hnd⟩ := hW
  have hA : DataW.TrodAll enc Try.prog W 0 (fun _ => true) true Try.f5.params.toList args.toList ds p := hA0
  rw [Try.params5] at hA hval
  obtain ⟨v0, vs0, d0, ds0, p0, q0, hargs, rfl, rfl, h0, r0⟩ := trodAll_cons hA
  obtain ⟨rfl, rfl, rfl⟩ := trodAll_nil r0
  obtain rfl : args = #[v0] := by cases args; simp_all
  obtain ⟨rfl, rfl⟩ := trodVars_none hV
  have k0 := h0
  have lt0 : ∀ x ∈ p0, x.block < W.heap.size := by obtain ⟨m, hm⟩ := k0; exact DataW.trod_lt m _ _ _ hm
  obtain ⟨a0, len0, cap0, rfl⟩ := okWide_slice Try.underlying22 (hval 0 22 v0 rfl rfl)
  have w0 : CodeOk W a0 len0 cap0 := by
    obtain ⟨fuel, hf⟩ := h0
    rcases open_ints Try.underlying22 Try.underlying5 (by kernel_rfl) hf with ⟨hcs, _⟩ | ⟨x, l, c, zs, hcs, _, hl, hm, hz, _, hcell, hwz⟩
    · simp [Value.cells] at hcs
      obtain ⟨rfl, rfl, rfl⟩ := hcs
      exact code_nil W
    · simp [Value.cells] at hcs
      obtain ⟨rfl, rfl, rfl⟩ := hcs
      exact code_ok hl hm (by simp at hz; omega) hcell hwz
  clear hA0 hval0
  refine (walk W a0 len0 cap0 w0).mono fun e W' ⟨he, bel⟩ => ?_
  subst he
  exact ⟨_, rfl, _, _, _, [], _, [], hW', trodAll_mk1 (shut_bool Try.underlying4 _), (trodAll_cons_mk (Below.trod laidOut (by kernel_rfl) (of_decide_eq_true (by kernel_rfl)) k0 bel lt0) trodAll_mk0), rfl, bel.frame _, fun h => by cases h⟩

theorem over : Rows.fnWallOfRow.holds Try.pinned (OpenSpec.ofChange Rows.fnWallOfSpec) :=
  OpenClaim.holds_of_wide 5 Try.f5 rfl rfl rfl rfl rfl rfl rfl ⟨rfl, rfl, rfl, rfl, rfl⟩ rfl rfl rfl rfl rfl (by kernel_rfl) Try.func5 (by kernel_rfl)
    (of_decide_eq_true (by kernel_rfl)) (by unfold Func.isWrapper; first | (rw [if_pos (by decide +kernel)]; kernel_rfl) | (rw [if_neg (by decide +kernel)]; exact ⟨rfl, rfl⟩))
    (fun os started H enc _ => lifted os started H enc)

/-- The statement. -/
theorem proved : Rows.FnWallOfSaid :=
  over
#print axioms proved
end Go.Proofs.Ytgbelpkhfaajoab.fnWallOf
