/- FnUnderBlock: whatever the input, the law returns true, and its arguments read as they did. No conditions beyond those of the statement's row. -/
import Derived.Test.YtlahjgjjebkpjaaDd
import Derived.Test.YtlahjgjjebkpjaaVa
import Derived.Test.YtlahjgjjebkpjaaVt
namespace Go.Proofs.Ytlahjgjjebkpjaa.fnUnderBlock
open Go.Proofs.Ytlahjgjjebkpjaa
open Go.ChangeShapes Go.WideShapes Go.ChangeAt Go.RowKit Go.Joins
set_option linter.unusedVariables false
set_option linter.unusedSimpArgs false
set_option linter.unnecessarySimpa false

theorem own : ownKnob Try.prog.godebug = none := by kernel_rfl
theorem laidOut : laidOutB Try.prog = true := by kernel_rfl

set_option maxRecDepth 100000 in
set_option maxHeartbeats 4000000 in
theorem walk (w : World) (a0 : Option Addr) (len0 cap0 : Nat) (w0 : CodeOk w a0 len0 cap0) :
    Calls Try.prog 8 #[.slice a0 len0 cap0] w fun e w' => e = .returned (.bool true) ∧ Below w.heap.size w w' := by
  by_cases hl : 1048576 < len0
  · have w0' := w0.2.1
    unfold maxLen at w0'
    clear w0
    go_enter Try.func8, Try.ntmps8
    go_wp2
    go_ret
    exact ⟨rfl, Below.refl _ _⟩
  · have w0' := w0.2.1
    unfold maxLen at w0'
    have hle := w0.1
    have HW := Lib.hid w0
    clear w0
    go_enter Try.func8, Try.ntmps8
    go_wp2_with fail
    refine (drUnderBlock_any _ _ _ _ HW.out).mono ?_; rintro e w1 ⟨p0, p1, b0, b1, b2, b3, b4, r0, r1, r2, rfl, ⟨p0_0, p0_1⟩, ⟨p1_0, p1_1⟩, ⟨b0_0, b0_1⟩, ⟨b1_0, b1_1⟩, ⟨b2_0, b2_1⟩, ⟨b3_0, b3_1⟩, ⟨b4_0, b4_1⟩, ⟨r0_0, r0_1⟩, ⟨r1_0, r1_1⟩, ⟨r2_0, r2_1⟩, hB0⟩
    obtain ⟨p, hp⟩ : ∃ z, unB p0 p1 b0 b1 b2 b3 b4 = z := ⟨_, rfl⟩
    have HP := Lib.hid hp
    have HZ : Hid (shB p0 p1 b0 b1 b2 b3 b4 0 0 1 = p) := by show _ = _; rw [← hp]; exact sh_zenith _ _ _ _ _ _ _
    have hU : p = true → shB p0 p1 b0 b1 b2 b3 b4 7 (-3) 2 = true := fun h => sh_under (by rw [hp]; exact h) (by decide)
    clear hp
    cases p
    · clear hU
      have hP1 : (w1.alloc (.cells #[.int .i64 p0, .int .i64 p1] 24)).heap[w1.heap.size]? = some (.cells #[.int .i64 p0, .int .i64 p1] 24) := by have := blk_new w1 (.cells #[.int .i64 p0, .int .i64 p1] 24); simpa using this
      have hB1 := hB0.alloc hB0.size (.cells #[.int .i64 p0, .int .i64 p1] 24)
      have zBP := hB0.size
      have zPQ := blk_lt hP1
      have hQ2 : ((w1.alloc (.cells #[.int .i64 p0, .int .i64 p1] 24)).alloc (.cells #[.int .i64 b0, .int .i64 b1, .int .i64 b2, .int .i64 b3, .int .i64 b4] 30)).heap[w1.heap.size + 1]? = some (.cells #[.int .i64 b0, .int .i64 b1, .int .i64 b2, .int .i64 b3, .int .i64 b4] 30) := by have := blk_new (w1.alloc (.cells #[.int .i64 p0, .int .i64 p1] 24)) (.cells #[.int .i64 b0, .int .i64 b1, .int .i64 b2, .int .i64 b3, .int .i64 b4] 30); simpa using this
      have hP2 := blk_old hP1 (.cells #[.int .i64 b0, .int .i64 b1, .int .i64 b2, .int .i64 b3, .int .i64 b4] 30)
      have hB2 := hB1.alloc hB1.size (.cells #[.int .i64 b0, .int .i64 b1, .int .i64 b2, .int .i64 b3, .int .i64 b4] 30)
      have zBQ := hB1.size
      obtain ⟨cP2_0, cP2_1, fP2_0, fP2_1, zP2⟩ := blk2 hP2
      obtain ⟨cQ2_0, cQ2_1, cQ2_2, cQ2_3, cQ2_4, fQ2_0, fQ2_1, fQ2_2, fQ2_3, fQ2_4, zQ2⟩ := blk5 hQ2
      go_wp2_with fail
      refine (iUB_is _ HP.out).mono ?_; rintro e' w3 ⟨rfl, hw3⟩
      have hP3 := blk_next hP2 hw3
      have hQ3 := blk_next hQ2 hw3
      have hB3 := bel_next hB2 hw3
      obtain ⟨cP3_0, cP3_1, fP3_0, fP3_1, zP3⟩ := blk2 hP3
      obtain ⟨cQ3_0, cQ3_1, cQ3_2, cQ3_3, cQ3_4, fQ3_0, fQ3_1, fQ3_2, fQ3_3, fQ3_4, zQ3⟩ := blk5 hQ3
      go_wp2_with fail
      refine (sUB_is _ HP.out).mono ?_; rintro e' w4 ⟨rfl, hw4⟩
      have hP4 := blk_next hP3 hw4
      have hQ4 := blk_next hQ3 hw4
      have hB4 := bel_next hB3 hw4
      obtain ⟨cP4_0, cP4_1, fP4_0, fP4_1, zP4⟩ := blk2 hP4
      obtain ⟨cQ4_0, cQ4_1, cQ4_2, cQ4_3, cQ4_4, fQ4_0, fQ4_1, fQ4_2, fQ4_3, fQ4_4, zQ4⟩ := blk5 hQ4
      go_wp2_with fail
      refine (iSh_is _ HZ.out).mono ?_; rintro e' w5 ⟨rfl, hw5⟩
      have hP5 := blk_next hP4 hw5
      have hQ5 := blk_next hQ4 hw5
      have hB5 := bel_next hB4 hw5
      obtain ⟨cP5_0, cP5_1, fP5_0, fP5_1, zP5⟩ := blk2 hP5
      obtain ⟨cQ5_0, cQ5_1, cQ5_2, cQ5_3, cQ5_4, fQ5_0, fQ5_1, fQ5_2, fQ5_3, fQ5_4, zQ5⟩ := blk5 hQ5
      go_wp2_with fail
      refine (alive_bel _).mono ?_; rintro e' w6 ⟨rfl, hw6⟩
      have hP6 := blk_next hP5 hw6
      have hQ6 := blk_next hQ5 hw6
      have hB6 := bel_next hB5 hw6
      go_wp2
      go_ret
      exact ⟨rfl, by first | exact hB6 | exact hB6.drew⟩
    · have HU := Lib.hid (hU rfl)
      clear hU
      have hP1 : (w1.alloc (.cells #[.int .i64 p0, .int .i64 p1] 24)).heap[w1.heap.size]? = some (.cells #[.int .i64 p0, .int .i64 p1] 24) := by have := blk_new w1 (.cells #[.int .i64 p0, .int .i64 p1] 24); simpa using this
      have hB1 := hB0.alloc hB0.size (.cells #[.int .i64 p0, .int .i64 p1] 24)
      have zBP := hB0.size
      have zPQ := blk_lt hP1
      have hQ2 : ((w1.alloc (.cells #[.int .i64 p0, .int .i64 p1] 24)).alloc (.cells #[.int .i64 b0, .int .i64 b1, .int .i64 b2, .int .i64 b3, .int .i64 b4] 30)).heap[w1.heap.size + 1]? = some (.cells #[.int .i64 b0, .int .i64 b1, .int .i64 b2, .int .i64 b3, .int .i64 b4] 30) := by have := blk_new (w1.alloc (.cells #[.int .i64 p0, .int .i64 p1] 24)) (.cells #[.int .i64 b0, .int .i64 b1, .int .i64 b2, .int .i64 b3, .int .i64 b4] 30); simpa using this
      have hP2 := blk_old hP1 (.cells #[.int .i64 b0, .int .i64 b1, .int .i64 b2, .int .i64 b3, .int .i64 b4] 30)
      have hB2 := hB1.alloc hB1.size (.cells #[.int .i64 b0, .int .i64 b1, .int .i64 b2, .int .i64 b3, .int .i64 b4] 30)
      have zBQ := hB1.size
      obtain ⟨cP2_0, cP2_1, fP2_0, fP2_1, zP2⟩ := blk2 hP2
      obtain ⟨cQ2_0, cQ2_1, cQ2_2, cQ2_3, cQ2_4, fQ2_0, fQ2_1, fQ2_2, fQ2_3, fQ2_4, zQ2⟩ := blk5 hQ2
      go_wp2_with fail
      refine (iUB_is _ HP.out).mono ?_; rintro e' w3 ⟨rfl, hw3⟩
      have hP3 := blk_next hP2 hw3
      have hQ3 := blk_next hQ2 hw3
      have hB3 := bel_next hB2 hw3
      obtain ⟨cP3_0, cP3_1, fP3_0, fP3_1, zP3⟩ := blk2 hP3
      obtain ⟨cQ3_0, cQ3_1, cQ3_2, cQ3_3, cQ3_4, fQ3_0, fQ3_1, fQ3_2, fQ3_3, fQ3_4, zQ3⟩ := blk5 hQ3
      go_wp2_with fail
      refine (sUB_is _ HP.out).mono ?_; rintro e' w4 ⟨rfl, hw4⟩
      have hP4 := blk_next hP3 hw4
      have hQ4 := blk_next hQ3 hw4
      have hB4 := bel_next hB3 hw4
      obtain ⟨cP4_0, cP4_1, fP4_0, fP4_1, zP4⟩ := blk2 hP4
      obtain ⟨cQ4_0, cQ4_1, cQ4_2, cQ4_3, cQ4_4, fQ4_0, fQ4_1, fQ4_2, fQ4_3, fQ4_4, zQ4⟩ := blk5 hQ4
      go_wp2_with fail
      refine (iSh_is _ HZ.out).mono ?_; rintro e' w5 ⟨rfl, hw5⟩
      have hP5 := blk_next hP4 hw5
      have hQ5 := blk_next hQ4 hw5
      have hB5 := bel_next hB4 hw5
      obtain ⟨cP5_0, cP5_1, fP5_0, fP5_1, zP5⟩ := blk2 hP5
      obtain ⟨cQ5_0, cQ5_1, cQ5_2, cQ5_3, cQ5_4, fQ5_0, fQ5_1, fQ5_2, fQ5_3, fQ5_4, zQ5⟩ := blk5 hQ5
      go_wp2_with fail
      refine (iSh_is _ HU.out).mono ?_; rintro e' w6 ⟨rfl, hw6⟩
      have hP6 := blk_next hP5 hw6
      have hQ6 := blk_next hQ5 hw6
      have hB6 := bel_next hB5 hw6
      go_wp2_with fail
      refine (alive_bel _).mono ?_; rintro e' w7 ⟨rfl, hw7⟩
      have hP7 := blk_next hP6 hw7
      have hQ7 := blk_next hQ6 hw7
      have hB7 := bel_next hB6 hw7
      go_wp2
      go_ret
      exact ⟨rfl, by first | exact hB7 | exact hB7.drew⟩

set_option maxRecDepth 100000 in
theorem lifted (os : Os) (started : os.Started) (H : Type) (enc : TypeId × Value → H) :
    ReturnsInHanded {} Try.checked os 8 .any (Rows.fnUnderBlockSpec.pre6 enc Try.prog Try.f8 Rows.fnUnderBlockRow.domain false) (Rows.fnUnderBlockSpec.post enc Try.prog Try.f8 false true false false) := by
  refine returnsInHanded_of_change (C := Try.checked) own started (by kernel_rfl) Try.func8
    (ChangeSpec.witness6 (enc := enc) (C := Try.checked) false ⟨#[], #[.slice none 0 0], []⟩ 8 (by kernel_rfl) (by kernel_rfl) (by kernel_rfl) (by kernel_rfl)) ?_
  intro W base args ds gs before hval0 hW hcnd _
  have hval : ∀ (j : Nat) t v, Try.f8.params[j]? = some t → args[j]? = some v → Value.okWide Try.prog W .any base t v := hval0
  have hW' := hW
  obtain ⟨p, q, hA0, hV, rfl, hfz, hnd⟩ := hW
  have hA : DataW.TrodAll enc Try.prog W 0 (fun _ => true) true Try.f8.params.toList args.toList ds p := hA0
  rw [Try.params8] at hA hval
  obtain ⟨v0, vs0, d0, ds0, p0, q0, hargs, rfl, rfl, h0, r0⟩ := trodAll_cons hA
  obtain ⟨rfl, rfl, rfl⟩ := trodAll_nil r0
  obtain rfl : args = #[v0] := by cases args; simp_all
  obtain ⟨rfl, rfl⟩ := trodVars_none hV
  have k0 := h0
  have lt0 : ∀ x ∈ p0, x.block < W.heap.size := by obtain ⟨m, hm⟩ := k0; exact DataW.trod_lt m _ _ _ hm
  obtain ⟨a0, len0, cap0, rfl⟩ := okWide_slice Try.underlying22 (hval 0 22 v0 rfl rfl)
  have w0 : CodeOk W a0 len0 cap0 := by
    obtain ⟨fuel, hf⟩ := h0
    rcases open_ints Try.underlying22 Try.underlying5 (by kernel_rfl) hf with ⟨hcs, _⟩ | ⟨x, l, c, zs, hcs, _, hl, hm, hz, _, hcell, hwz⟩
    · simp [Value.cells] at hcs
      obtain ⟨rfl, rfl, rfl⟩ := hcs
      exact code_nil W
    · simp [Value.cells] at hcs
      obtain ⟨rfl, rfl, rfl⟩ := hcs
      exact code_ok hl hm (by simp at hz; omega) hcell hwz
  clear hA0 hval0
  refine (walk W a0 len0 cap0 w0).mono fun e W' ⟨he, bel⟩ => ?_
  subst he
  exact ⟨_, rfl, _, _, _, [], _, [], hW', trodAll_mk1 (shut_bool Try.underlying4 _), (trodAll_cons_mk (Below.trod laidOut (by kernel_rfl) (of_decide_eq_true (by kernel_rfl)) k0 bel lt0) trodAll_mk0), rfl, bel.frame _, fun h => by cases h⟩

theorem over : Rows.fnUnderBlockRow.holds Try.pinned (OpenSpec.ofChange Rows.fnUnderBlockSpec) :=
  OpenClaim.holds_of_wide 8 Try.f8 rfl rfl rfl rfl rfl rfl rfl ⟨rfl, rfl, rfl, rfl, rfl⟩ rfl rfl rfl rfl rfl (by kernel_rfl) Try.func8 (by kernel_rfl)
    (of_decide_eq_true (by kernel_rfl)) (by unfold Func.isWrapper; first | (rw [if_pos (by decide +kernel)]; kernel_rfl) | (rw [if_neg (by decide +kernel)]; exact ⟨rfl, rfl⟩))
    (fun os started H enc _ => lifted os started H enc)

/-- The statement. -/
theorem proved : Rows.FnUnderBlockSaid :=
  over
#print axioms proved
end Go.Proofs.Ytlahjgjjebkpjaa.fnUnderBlock
