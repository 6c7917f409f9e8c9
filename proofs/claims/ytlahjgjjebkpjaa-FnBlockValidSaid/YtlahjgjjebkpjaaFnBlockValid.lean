/- FnBlockValid: whatever the input, the law returns true, and its arguments read as they did. No conditions beyond those of the statement's row. -/
import Derived.Test.YtlahjgjjebkpjaaDb
namespace Go.Proofs.Ytlahjgjjebkpjaa.fnBlockValid
open Go.Proofs.Ytlahjgjjebkpjaa
open Go.ChangeShapes Go.WideShapes Go.ChangeAt Go.RowKit Go.Joins
set_option linter.unusedVariables false
set_option linter.unusedSimpArgs false
set_option linter.unnecessarySimpa false

theorem own : ownKnob Try.prog.godebug = none := by kernel_rfl
theorem laidOut : laidOutB Try.prog = true := by kernel_rfl

set_option maxRecDepth 100000 in
set_option maxHeartbeats 4000000 in
theorem walk (w : World) (a0 : Option Addr) (len0 cap0 : Nat) (w0 : CodeOk w a0 len0 cap0) :
    Calls Try.prog 4 #[.slice a0 len0 cap0] w fun e w' => e = .returned (.bool true) ∧ Below w.heap.size w w' := by
  by_cases hl : 1048576 < len0
  · have w0' := w0.2.1
    unfold maxLen at w0'
    clear w0
    go_enter Try.func4, Try.ntmps4
    go_wp2
    go_ret
    exact ⟨rfl, Below.refl _ _⟩
  · have w0' := w0.2.1
    unfold maxLen at w0'
    have hle := w0.1
    have HW := Lib.hid w0
    clear w0
    go_enter Try.func4, Try.ntmps4
    go_wp2_with fail
    refine (drBlockValid_any _ _ _ _ HW.out).mono ?_; rintro e w1 ⟨x0, x1, x2, x3, x4, rfl, ⟨x0_0, x0_1⟩, ⟨x1_0, x1_1⟩, ⟨x2_0, x2_1⟩, ⟨x3_0, x3_1⟩, ⟨x4_0, x4_1⟩, hB0⟩
    obtain ⟨p, hp⟩ : ∃ z, blB x0 x1 x2 x3 x4 = z := ⟨_, rfl⟩
    have HP := Lib.hid hp
    have HF : Hid (blB x0 x0 x2 x3 x4 = false) := by show _ = _; rw [Bool.eq_false_iff]; intro h; have := blB_iff.1 h; omega
    clear hp
    cases p
    · have hP1 : (w1.alloc (.cells #[.int .i64 x0, .int .i64 x1, .int .i64 x2, .int .i64 x3, .int .i64 x4] 30)).heap[w1.heap.size]? = some (.cells #[.int .i64 x0, .int .i64 x1, .int .i64 x2, .int .i64 x3, .int .i64 x4] 30) := by have := blk_new w1 (.cells #[.int .i64 x0, .int .i64 x1, .int .i64 x2, .int .i64 x3, .int .i64 x4] 30); simpa using this
      have hB1 := hB0.alloc hB0.size (.cells #[.int .i64 x0, .int .i64 x1, .int .i64 x2, .int .i64 x3, .int .i64 x4] 30)
      have zBP := hB0.size
      obtain ⟨cP1_0, cP1_1, cP1_2, cP1_3, cP1_4, fP1_0, fP1_1, fP1_2, fP1_3, fP1_4, zP1⟩ := blk5 hP1
      go_wp2_with fail
      refine (iBV_is _ HP.out).mono ?_; rintro e' w2 ⟨rfl, hw2⟩
      have hP2 := blk_next hP1 hw2
      have hB2 := bel_next hB1 hw2
      obtain ⟨cP2_0, cP2_1, cP2_2, cP2_3, cP2_4, fP2_0, fP2_1, fP2_2, fP2_3, fP2_4, zP2⟩ := blk5 hP2
      go_wp2_with fail
      refine (sBV_is _ HP.out).mono ?_; rintro e' w3 ⟨rfl, hw3⟩
      have hP3 := blk_next hP2 hw3
      have hB3 := bel_next hB2 hw3
      obtain ⟨cP3_0, cP3_1, cP3_2, cP3_3, cP3_4, fP3_0, fP3_1, fP3_2, fP3_3, fP3_4, zP3⟩ := blk5 hP3
      have zPL := blk_lt hP3
      have hL4 : (w3.alloc (.cells #[.int .i64 x0, .int .i64 x1, .int .i64 x2, .int .i64 x3, .int .i64 1] 30)).heap[w3.heap.size]? = some (.cells #[.int .i64 x0, .int .i64 x1, .int .i64 x2, .int .i64 x3, .int .i64 1] 30) := by have := blk_new w3 (.cells #[.int .i64 x0, .int .i64 x1, .int .i64 x2, .int .i64 x3, .int .i64 1] 30); simpa using this
      have hP4 := blk_old hP3 (.cells #[.int .i64 x0, .int .i64 x1, .int .i64 x2, .int .i64 x3, .int .i64 1] 30)
      have hB4 := hB3.alloc hB3.size (.cells #[.int .i64 x0, .int .i64 x1, .int .i64 x2, .int .i64 x3, .int .i64 1] 30)
      have zBL := hB3.size
      obtain ⟨cP4_0, cP4_1, cP4_2, cP4_3, cP4_4, fP4_0, fP4_1, fP4_2, fP4_3, fP4_4, zP4⟩ := blk5 hP4
      have zPF := blk_lt hP4
      have zLF := blk_lt hL4
      have hF5 : ((w3.alloc (.cells #[.int .i64 x0, .int .i64 x1, .int .i64 x2, .int .i64 x3, .int .i64 1] 30)).alloc (.cells #[.int .i64 x0, .int .i64 x0, .int .i64 x2, .int .i64 x3, .int .i64 x4] 30)).heap[w3.heap.size + 1]? = some (.cells #[.int .i64 x0, .int .i64 x0, .int .i64 x2, .int .i64 x3, .int .i64 x4] 30) := by have := blk_new (w3.alloc (.cells #[.int .i64 x0, .int .i64 x1, .int .i64 x2, .int .i64 x3, .int .i64 1] 30)) (.cells #[.int .i64 x0, .int .i64 x0, .int .i64 x2, .int .i64 x3, .int .i64 x4] 30); simpa using this
      have hP5 := blk_old hP4 (.cells #[.int .i64 x0, .int .i64 x0, .int .i64 x2, .int .i64 x3, .int .i64 x4] 30)
      have hL5 := blk_old hL4 (.cells #[.int .i64 x0, .int .i64 x0, .int .i64 x2, .int .i64 x3, .int .i64 x4] 30)
      have hB5 := hB4.alloc hB4.size (.cells #[.int .i64 x0, .int .i64 x0, .int .i64 x2, .int .i64 x3, .int .i64 x4] 30)
      have zBF := hB4.size
      obtain ⟨cP5_0, cP5_1, cP5_2, cP5_3, cP5_4, fP5_0, fP5_1, fP5_2, fP5_3, fP5_4, zP5⟩ := blk5 hP5
      obtain ⟨cL5_0, cL5_1, cL5_2, cL5_3, cL5_4, fL5_0, fL5_1, fL5_2, fL5_3, fL5_4, zL5⟩ := blk5 hL5
      obtain ⟨cF5_0, cF5_1, cF5_2, cF5_3, cF5_4, fF5_0, fF5_1, fF5_2, fF5_3, fF5_4, zF5⟩ := blk5 hF5
      go_wp2_with fail
      refine (iBV_is _ HF.out).mono ?_; rintro e' w6 ⟨rfl, hw6⟩
      have hP6 := blk_next hP5 hw6
      have hL6 := blk_next hL5 hw6
      have hF6 := blk_next hF5 hw6
      have hB6 := bel_next hB5 hw6
      go_wp2_with fail
      refine (alive_bel _).mono ?_; rintro e' w7 ⟨rfl, hw7⟩
      have hP7 := blk_next hP6 hw7
      have hL7 := blk_next hL6 hw7
      have hF7 := blk_next hF6 hw7
      have hB7 := bel_next hB6 hw7
      go_wp2
      go_ret
      exact ⟨rfl, by first | exact hB7 | exact hB7.drew⟩
    · have HL : Hid (blB x0 x1 x2 x3 1 = true) := by show _ = _; have := blB_iff.1 HP.out; rw [blB_iff]; omega
      have hP1 : (w1.alloc (.cells #[.int .i64 x0, .int .i64 x1, .int .i64 x2, .int .i64 x3, .int .i64 x4] 30)).heap[w1.heap.size]? = some (.cells #[.int .i64 x0, .int .i64 x1, .int .i64 x2, .int .i64 x3, .int .i64 x4] 30) := by have := blk_new w1 (.cells #[.int .i64 x0, .int .i64 x1, .int .i64 x2, .int .i64 x3, .int .i64 x4] 30); simpa using this
      have hB1 := hB0.alloc hB0.size (.cells #[.int .i64 x0, .int .i64 x1, .int .i64 x2, .int .i64 x3, .int .i64 x4] 30)
      have zBP := hB0.size
      obtain ⟨cP1_0, cP1_1, cP1_2, cP1_3, cP1_4, fP1_0, fP1_1, fP1_2, fP1_3, fP1_4, zP1⟩ := blk5 hP1
      go_wp2_with fail
      refine (iBV_is _ HP.out).mono ?_; rintro e' w2 ⟨rfl, hw2⟩
      have hP2 := blk_next hP1 hw2
      have hB2 := bel_next hB1 hw2
      obtain ⟨cP2_0, cP2_1, cP2_2, cP2_3, cP2_4, fP2_0, fP2_1, fP2_2, fP2_3, fP2_4, zP2⟩ := blk5 hP2
      go_wp2_with fail
      refine (sBV_is _ HP.out).mono ?_; rintro e' w3 ⟨rfl, hw3⟩
      have hP3 := blk_next hP2 hw3
      have hB3 := bel_next hB2 hw3
      obtain ⟨cP3_0, cP3_1, cP3_2, cP3_3, cP3_4, fP3_0, fP3_1, fP3_2, fP3_3, fP3_4, zP3⟩ := blk5 hP3
      have zPL := blk_lt hP3
      have hL4 : (w3.alloc (.cells #[.int .i64 x0, .int .i64 x1, .int .i64 x2, .int .i64 x3, .int .i64 1] 30)).heap[w3.heap.size]? = some (.cells #[.int .i64 x0, .int .i64 x1, .int .i64 x2, .int .i64 x3, .int .i64 1] 30) := by have := blk_new w3 (.cells #[.int .i64 x0, .int .i64 x1, .int .i64 x2, .int .i64 x3, .int .i64 1] 30); simpa using this
      have hP4 := blk_old hP3 (.cells #[.int .i64 x0, .int .i64 x1, .int .i64 x2, .int .i64 x3, .int .i64 1] 30)
      have hB4 := hB3.alloc hB3.size (.cells #[.int .i64 x0, .int .i64 x1, .int .i64 x2, .int .i64 x3, .int .i64 1] 30)
      have zBL := hB3.size
      obtain ⟨cP4_0, cP4_1, cP4_2, cP4_3, cP4_4, fP4_0, fP4_1, fP4_2, fP4_3, fP4_4, zP4⟩ := blk5 hP4
      have zPF := blk_lt hP4
      have zLF := blk_lt hL4
      have hF5 : ((w3.alloc (.cells #[.int .i64 x0, .int .i64 x1, .int .i64 x2, .int .i64 x3, .int .i64 1] 30)).alloc (.cells #[.int .i64 x0, .int .i64 x0, .int .i64 x2, .int .i64 x3, .int .i64 x4] 30)).heap[w3.heap.size + 1]? = some (.cells #[.int .i64 x0, .int .i64 x0, .int .i64 x2, .int .i64 x3, .int .i64 x4] 30) := by have := blk_new (w3.alloc (.cells #[.int .i64 x0, .int .i64 x1, .int .i64 x2, .int .i64 x3, .int .i64 1] 30)) (.cells #[.int .i64 x0, .int .i64 x0, .int .i64 x2, .int .i64 x3, .int .i64 x4] 30); simpa using this
      have hP5 := blk_old hP4 (.cells #[.int .i64 x0, .int .i64 x0, .int .i64 x2, .int .i64 x3, .int .i64 x4] 30)
      have hL5 := blk_old hL4 (.cells #[.int .i64 x0, .int .i64 x0, .int .i64 x2, .int .i64 x3, .int .i64 x4] 30)
      have hB5 := hB4.alloc hB4.size (.cells #[.int .i64 x0, .int .i64 x0, .int .i64 x2, .int .i64 x3, .int .i64 x4] 30)
      have zBF := hB4.size
      obtain ⟨cP5_0, cP5_1, cP5_2, cP5_3, cP5_4, fP5_0, fP5_1, fP5_2, fP5_3, fP5_4, zP5⟩ := blk5 hP5
      obtain ⟨cL5_0, cL5_1, cL5_2, cL5_3, cL5_4, fL5_0, fL5_1, fL5_2, fL5_3, fL5_4, zL5⟩ := blk5 hL5
      obtain ⟨cF5_0, cF5_1, cF5_2, cF5_3, cF5_4, fF5_0, fF5_1, fF5_2, fF5_3, fF5_4, zF5⟩ := blk5 hF5
      go_wp2_with fail
      refine (iBV_is _ HL.out).mono ?_; rintro e' w6 ⟨rfl, hw6⟩
      have hP6 := blk_next hP5 hw6
      have hL6 := blk_next hL5 hw6
      have hF6 := blk_next hF5 hw6
      have hB6 := bel_next hB5 hw6
      obtain ⟨cF6_0, cF6_1, cF6_2, cF6_3, cF6_4, fF6_0, fF6_1, fF6_2, fF6_3, fF6_4, zF6⟩ := blk5 hF6
      go_wp2_with fail
      refine (iBV_is _ HF.out).mono ?_; rintro e' w7 ⟨rfl, hw7⟩
      have hP7 := blk_next hP6 hw7
      have hL7 := blk_next hL6 hw7
      have hF7 := blk_next hF6 hw7
      have hB7 := bel_next hB6 hw7
      go_wp2_with fail
      refine (alive_bel _).mono ?_; rintro e' w8 ⟨rfl, hw8⟩
      have hP8 := blk_next hP7 hw8
      have hL8 := blk_next hL7 hw8
      have hF8 := blk_next hF7 hw8
      have hB8 := bel_next hB7 hw8
      go_wp2
      go_ret
      exact ⟨rfl, by first | exact hB8 | exact hB8.drew⟩

set_option maxRecDepth 100000 in
theorem lifted (os : Os) (started : os.Started) (H : Type) (enc : TypeId × Value → H) :
    ReturnsInHanded {} Try.checked os 4 .any (Rows.fnBlockValidSpec.pre6 enc Try.prog Try.f4 Rows.fnBlockValidRow.domain false) (Rows.fnBlockValidSpec.post enc Try.prog Try.f4 false true false false) := by
  refine returnsInHanded_of_change (C := Try.checked) own started (by kernel_rfl) Try.func4
    (ChangeSpec.witness6 (enc := enc) (C := Try.checked) false ⟨#[], #[.slice none 0 0], []⟩ 8 (by kernel_rfl) (by kernel_rfl) (by kernel_rfl) (by kernel_rfl)) ?_
  intro W base args ds gs before hval0 hW hcnd _
  have hval : ∀ (j : Nat) t v, Try.f4.params[j]? = some t → args[j]? = some v → Value.okWide Try.prog W .any base t v := hval0
  have hW' := hW
  obtain ⟨p, q, hA0, hV, rfl, hfz, hnd⟩ := hW
  have hA : DataW.TrodAll enc Try.prog W 0 (fun _ => true) true Try.f4.params.toList args.toList ds p := hA0
  rw [Try.params4] at hA hval
  obtain ⟨v0, vs0, d0, ds0, p0, q0, hargs, rfl, rfl, h0, r0⟩ := trodAll_cons hA
  obtain ⟨rfl, rfl, rfl⟩ := trodAll_nil r0
  obtain rfl : args = #[v0] := by cases args; simp_all
  obtain ⟨rfl, rfl⟩ := trodVars_none hV
  have k0 := h0
  have lt0 : ∀ x ∈ p0, x.block < W.heap.size := by obtain ⟨m, hm⟩ := k0; exact DataW.trod_lt m _ _ _ hm
  obtain ⟨a0, len0, cap0, rfl⟩ := okWide_slice Try.underlying22 (hval 0 22 v0 rfl rfl)
  have w0 : CodeOk W a0 len0 cap0 := by
    obtain ⟨fuel, hf⟩ := h0
    rcases open_ints Try.underlying22 Try.underlying5 (by kernel_rfl) hf with ⟨hcs, _⟩ | ⟨x, l, c, zs, hcs, _, hl, hm, hz, _, hcell, hwz⟩
    · simp [Value.cells] at hcs
      obtain ⟨rfl, rfl, rfl⟩ := hcs
      exact code_nil W
    · simp [Value.cells] at hcs
      obtain ⟨rfl, rfl, rfl⟩ := hcs
      exact code_ok hl hm (by simp at hz; omega) hcell hwz
  clear hA0 hval0
  refine (walk W a0 len0 cap0 w0).mono fun e W' ⟨he, bel⟩ => ?_
  subst he
  exact ⟨_, rfl, _, _, _, [], _, [], hW', trodAll_mk1 (shut_bool Try.underlying4 _), (trodAll_cons_mk (Below.trod laidOut (by kernel_rfl) (of_decide_eq_true (by kernel_rfl)) k0 bel lt0) trodAll_mk0), rfl, bel.frame _, fun h => by cases h⟩

theorem over : Rows.fnBlockValidRow.holds Try.pinned (OpenSpec.ofChange Rows.fnBlockValidSpec) :=
  OpenClaim.holds_of_wide 4 Try.f4 rfl rfl rfl rfl rfl rfl rfl ⟨rfl, rfl, rfl, rfl, rfl⟩ rfl rfl rfl rfl rfl (by kernel_rfl) Try.func4 (by kernel_rfl)
    (of_decide_eq_true (by kernel_rfl)) (by unfold Func.isWrapper; first | (rw [if_pos (by decide +kernel)]; kernel_rfl) | (rw [if_neg (by decide +kernel)]; exact ⟨rfl, rfl⟩))
    (fun os started H enc _ => lifted os started H enc)

/-- The statement. -/
theorem proved : Rows.FnBlockValidSaid :=
  over
#print axioms proved
end Go.Proofs.Ytlahjgjjebkpjaa.fnBlockValid
