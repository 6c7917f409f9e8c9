/- FnBlockTurn: whatever the input, the law returns true, and its arguments read as they did. No conditions beyond those of the statement's row. -/
import Derived.Test.YtlahjgjjebkpjaaDb
namespace Go.Proofs.Ytlahjgjjebkpjaa.fnBlockTurn
open Go.Proofs.Ytlahjgjjebkpjaa
open Go.ChangeShapes Go.WideShapes Go.ChangeAt Go.RowKit Go.Joins
set_option linter.unusedVariables false
set_option linter.unusedSimpArgs false
set_option linter.unnecessarySimpa false

theorem own : ownKnob Try.prog.godebug = none := by kernel_rfl
theorem laidOut : laidOutB Try.prog = true := by kernel_rfl

set_option maxRecDepth 100000 in
set_option maxHeartbeats 4000000 in
theorem walk (w : World) (a0 : Option Addr) (len0 cap0 : Nat) (w0 : CodeOk w a0 len0 cap0) :
    Calls Try.prog 11 #[.slice a0 len0 cap0] w fun e w' => e = .returned (.bool true) ∧ Below w.heap.size w w' := by
  by_cases hl : 1048576 < len0
  · have w0' := w0.2.1
    unfold maxLen at w0'
    clear w0
    go_enter Try.func11, Try.ntmps11
    go_wp2
    go_ret
    exact ⟨rfl, Below.refl _ _⟩
  · have w0' := w0.2.1
    unfold maxLen at w0'
    have hle := w0.1
    have HW := Lib.hid w0
    clear w0
    go_enter Try.func11, Try.ntmps11
    go_wp2_with fail
    refine (drBlockTurn_any _ _ _ _ HW.out).mono ?_; rintro e w1 ⟨x0, x1, x2, x3, x4, rfl, ⟨x0_0, x0_1⟩, ⟨x1_0, x1_1⟩, ⟨x2_0, x2_1⟩, ⟨x3_0, x3_1⟩, ⟨x4_0, x4_1⟩, hB0⟩
    obtain ⟨p, hp⟩ : ∃ z, blB x0 x1 x2 x3 x4 = z := ⟨_, rfl⟩
    have HP := Lib.hid hp
    obtain ⟨y0, hy0⟩ : ∃ z, -x0 = z := ⟨_, rfl⟩
    have HY0 := Lib.hid hy0
    obtain ⟨y1, hy1⟩ : ∃ z, -x1 = z := ⟨_, rfl⟩
    have HY1 := Lib.hid hy1
    obtain ⟨y2, hy2⟩ : ∃ z, -x2 = z := ⟨_, rfl⟩
    have HY2 := Lib.hid hy2
    obtain ⟨y3, hy3⟩ : ∃ z, -x3 = z := ⟨_, rfl⟩
    have HY3 := Lib.hid hy3
    have HQ1 : Hid (blB y3 y2 x0 x1 x4 = p) := by show _ = _; rw [← hp, Bool.eq_iff_iff, blB_iff, blB_iff]; omega
    have HQ2 : Hid (blB y1 y0 y3 y2 x4 = p) := by show _ = _; rw [← hp, Bool.eq_iff_iff, blB_iff, blB_iff]; omega
    have HQ3 : Hid (blB x2 x3 y1 y0 x4 = p) := by show _ = _; rw [← hp, Bool.eq_iff_iff, blB_iff, blB_iff]; omega
    have HZ0 : Hid (-y0 = x0) := by show _ = _; omega
    have HZ1 : Hid (-y1 = x1) := by show _ = _; omega
    have HZ2 : Hid (-y2 = x2) := by show _ = _; omega
    have HZ3 : Hid (-y3 = x3) := by show _ = _; omega
    have hP0 : p = true → plB x0 x3 = true := fun h => by rw [h] at hp; have := blB_iff.1 hp; rw [plB_iff]; omega
    have hU : p = true → unB y3 x0 y3 y2 x0 x1 x4 = true := fun h => by rw [h] at hp; have := blB_iff.1 hp; unfold unB; simp only [Bool.and_eq_true, plB_iff, blB_iff]; simp [inV]; omega
    clear hp hy0 hy1 hy2 hy3
    cases p
    · clear hP0 hU
      have hP1 : (w1.alloc (.cells #[.int .i64 x0, .int .i64 x1, .int .i64 x2, .int .i64 x3, .int .i64 x4] 30)).heap[w1.heap.size]? = some (.cells #[.int .i64 x0, .int .i64 x1, .int .i64 x2, .int .i64 x3, .int .i64 x4] 30) := by have := blk_new w1 (.cells #[.int .i64 x0, .int .i64 x1, .int .i64 x2, .int .i64 x3, .int .i64 x4] 30); simpa using this
      have hB1 := hB0.alloc hB0.size (.cells #[.int .i64 x0, .int .i64 x1, .int .i64 x2, .int .i64 x3, .int .i64 x4] 30)
      have zBP := hB0.size
      obtain ⟨cP1_0, cP1_1, cP1_2, cP1_3, cP1_4, fP1_0, fP1_1, fP1_2, fP1_3, fP1_4, zP1⟩ := blk5 hP1
      go_wp2_with fail
      refine (iBT_f _ _ _ _ _ _ HP.out).mono ?_; rintro e' w2 ⟨rfl, hw2⟩
      have hP2 := blk_next hP1 hw2
      have hB2 := bel_next hB1 hw2
      have zPX := blk_lt hP2
      have hX3 : (w2.alloc (.cells #[.int .i64 0, .int .i64 0, .int .i64 0, .int .i64 0, .int .i64 0] 30)).heap[w2.heap.size]? = some (.cells #[.int .i64 0, .int .i64 0, .int .i64 0, .int .i64 0, .int .i64 0] 30) := by have := blk_new w2 (.cells #[.int .i64 0, .int .i64 0, .int .i64 0, .int .i64 0, .int .i64 0] 30); simpa using this
      have hP3 := blk_old hP2 (.cells #[.int .i64 0, .int .i64 0, .int .i64 0, .int .i64 0, .int .i64 0] 30)
      have hB3 := hB2.alloc hB2.size (.cells #[.int .i64 0, .int .i64 0, .int .i64 0, .int .i64 0, .int .i64 0] 30)
      have zBX := hB2.size
      go_wp2_with fail
      refine wp_region_held_drew (S := (fun w' => w'.heap[w1.heap.size]? = some (.cells #[.int .i64 x0, .int .i64 x1, .int .i64 x2, .int .i64 x3, .int .i64 x4] 30) ∧ w'.heap[w2.heap.size]? = some (.cells #[.int .i64 0, .int .i64 0, .int .i64 0, .int .i64 0, .int .i64 0] 30) ∧ Below w.heap.size w w')) (by kernel_rfl) ⟨hP3, hX3, hB3.drew⟩ (fun hHeld => ?_)
      obtain ⟨hP_0, hX_0, hB_0⟩ := id hHeld
      refine wpAnyH_take (i := 0) (oi := _) (v := ?_) rfl (by kernel_rfl) (by kernel_rfl) (by kernel_rfl) (fun _ _ _ h => h) (Or.inl ⟨by rfl, ?_⟩) (by assumption) ?_
      (rotate_left); (focus (intro wv hSw; (obtain ⟨qP, qX, qB⟩ := hSw); obtain ⟨_, _, _, _, _, _, _, _, _, _, _⟩ := blk5 qP; obtain ⟨_, _, _, _, _, _, _, _, _, _, _⟩ := blk5 qX; go_simp; (try with_reducible rfl)))
      try simp only [Act.put, List.getElem_toArray, List.getElem_cons_succ, List.getElem_cons_zero, List.setIfInBounds_toArray, List.set_cons_zero, List.set_cons_succ]
      refine wpAnyH_take (i := 1) (oi := _) (v := ?_) rfl (by kernel_rfl) (by kernel_rfl) (by kernel_rfl) (fun _ _ _ h => h) (Or.inl ⟨by rfl, ?_⟩) (by assumption) ?_
      (rotate_left); (focus (intro wv hSw; (obtain ⟨qP, qX, qB⟩ := hSw); obtain ⟨_, _, _, _, _, _, _, _, _, _, _⟩ := blk5 qP; obtain ⟨_, _, _, _, _, _, _, _, _, _, _⟩ := blk5 qX; go_simp; (try with_reducible rfl)))
      try simp only [Act.put, List.getElem_toArray, List.getElem_cons_succ, List.getElem_cons_zero, List.setIfInBounds_toArray, List.set_cons_zero, List.set_cons_succ]
      refine wpAnyH_ready (rs := [2]) (by kernel_rfl) (by simp) ?_
      refine AllReadyH.cons (o := _) rfl (fun K hK => ?_) (AllReadyH.nil)
      go_simp
      (go_at_call 40; refine (sBT_f _ _ _ _ _ _ HP.out).mono ?_; rintro e x0c ⟨rfl, hw_0c⟩)
      refine hK.out _ _ ⟨blk_next hP_0 hw_0c, blk_next hX_0 hw_0c, bel_next hB_0 hw_0c⟩ (fun hHeld => ?_)
      clear hK K
      try simp only [Act.put, List.getElem_toArray, List.getElem_cons_succ, List.getElem_cons_zero, List.setIfInBounds_toArray, List.set_cons_zero, List.set_cons_succ]
      obtain ⟨hP_0c, hX_0c, hB_0c⟩ := id hHeld
      refine wpAnyH_take (i := 3) (oi := _) (v := ?_) rfl (by kernel_rfl) (by kernel_rfl) (by kernel_rfl) (fun _ _ _ h => h) (Or.inl ⟨by rfl, ?_⟩) (by assumption) ?_
      (rotate_left); (focus (intro wv hSw; (obtain ⟨qP, qX, qB⟩ := hSw); obtain ⟨_, _, _, _, _, _, _, _, _, _, _⟩ := blk5 qP; obtain ⟨_, _, _, _, _, _, _, _, _, _, _⟩ := blk5 qX; go_simp; (try with_reducible rfl)))
      try simp only [Act.put, List.getElem_toArray, List.getElem_cons_succ, List.getElem_cons_zero, List.setIfInBounds_toArray, List.set_cons_zero, List.set_cons_succ]
      refine wpAnyH_done (by kernel_rfl) ?_ _
      have hP4 := hP_0c
      have hX4 := hX_0c
      have hB4 := hB_0c
      clear hP_0 hX_0 hB_0 hP_0c hX_0c hB_0c hHeld
      obtain ⟨cP4_0, cP4_1, cP4_2, cP4_3, cP4_4, fP4_0, fP4_1, fP4_2, fP4_3, fP4_4, zP4⟩ := blk5 hP4
      go_wp2_with fail
      refine (iBV_is _ HP.out).mono ?_; rintro e' w5 ⟨rfl, hw5⟩
      have hP5 := blk_next hP4 hw5
      have hX5 := blk_next hX4 hw5
      have hB5 := bel_next hB4 hw5
      obtain ⟨cX5_0, cX5_1, cX5_2, cX5_3, cX5_4, fX5_0, fX5_1, fX5_2, fX5_3, fX5_4, zX5⟩ := blk5 hX5
      go_wp2_with fail
      refine (alive_bel _).mono ?_; rintro e' w6 ⟨rfl, hw6⟩
      have hP6 := blk_next hP5 hw6
      have hX6 := blk_next hX5 hw6
      have hB6 := bel_next hB5 hw6
      go_wp2
      go_ret
      exact ⟨rfl, by first | exact hB6 | exact hB6.drew⟩
    · have HPL := Lib.hid (hP0 rfl)
      have HU := Lib.hid (hU rfl)
      clear hP0 hU
      have hP1 : (w1.alloc (.cells #[.int .i64 x0, .int .i64 x1, .int .i64 x2, .int .i64 x3, .int .i64 x4] 30)).heap[w1.heap.size]? = some (.cells #[.int .i64 x0, .int .i64 x1, .int .i64 x2, .int .i64 x3, .int .i64 x4] 30) := by have := blk_new w1 (.cells #[.int .i64 x0, .int .i64 x1, .int .i64 x2, .int .i64 x3, .int .i64 x4] 30); simpa using this
      have hB1 := hB0.alloc hB0.size (.cells #[.int .i64 x0, .int .i64 x1, .int .i64 x2, .int .i64 x3, .int .i64 x4] 30)
      have zBP := hB0.size
      obtain ⟨cP1_0, cP1_1, cP1_2, cP1_3, cP1_4, fP1_0, fP1_1, fP1_2, fP1_3, fP1_4, zP1⟩ := blk5 hP1
      go_wp2_with fail
      refine (iBT_is _ HP.out HY3.out HY2.out).mono ?_; rintro e' w2 ⟨rfl, hw2⟩
      have hP2 := blk_next hP1 hw2
      have hB2 := bel_next hB1 hw2
      have zPX := blk_lt hP2
      have hX3 : (w2.alloc (.cells #[.int .i64 y3, .int .i64 y2, .int .i64 x0, .int .i64 x1, .int .i64 x4] 30)).heap[w2.heap.size]? = some (.cells #[.int .i64 y3, .int .i64 y2, .int .i64 x0, .int .i64 x1, .int .i64 x4] 30) := by have := blk_new w2 (.cells #[.int .i64 y3, .int .i64 y2, .int .i64 x0, .int .i64 x1, .int .i64 x4] 30); simpa using this
      have hP3 := blk_old hP2 (.cells #[.int .i64 y3, .int .i64 y2, .int .i64 x0, .int .i64 x1, .int .i64 x4] 30)
      have hB3 := hB2.alloc hB2.size (.cells #[.int .i64 y3, .int .i64 y2, .int .i64 x0, .int .i64 x1, .int .i64 x4] 30)
      have zBX := hB2.size
      go_wp2_with fail
      refine wp_region_held_drew (S := (fun w' => w'.heap[w1.heap.size]? = some (.cells #[.int .i64 x0, .int .i64 x1, .int .i64 x2, .int .i64 x3, .int .i64 x4] 30) ∧ w'.heap[w2.heap.size]? = some (.cells #[.int .i64 y3, .int .i64 y2, .int .i64 x0, .int .i64 x1, .int .i64 x4] 30) ∧ Below w.heap.size w w')) (by kernel_rfl) ⟨hP3, hX3, hB3.drew⟩ (fun hHeld => ?_)
      obtain ⟨hP_0, hX_0, hB_0⟩ := id hHeld
      refine wpAnyH_take (i := 0) (oi := _) (v := ?_) rfl (by kernel_rfl) (by kernel_rfl) (by kernel_rfl) (fun _ _ _ h => h) (Or.inl ⟨by rfl, ?_⟩) (by assumption) ?_
      (rotate_left); (focus (intro wv hSw; (obtain ⟨qP, qX, qB⟩ := hSw); obtain ⟨_, _, _, _, _, _, _, _, _, _, _⟩ := blk5 qP; obtain ⟨_, _, _, _, _, _, _, _, _, _, _⟩ := blk5 qX; go_simp; (try with_reducible rfl)))
      try simp only [Act.put, List.getElem_toArray, List.getElem_cons_succ, List.getElem_cons_zero, List.setIfInBounds_toArray, List.set_cons_zero, List.set_cons_succ]
      refine wpAnyH_take (i := 1) (oi := _) (v := ?_) rfl (by kernel_rfl) (by kernel_rfl) (by kernel_rfl) (fun _ _ _ h => h) (Or.inl ⟨by rfl, ?_⟩) (by assumption) ?_
      (rotate_left); (focus (intro wv hSw; (obtain ⟨qP, qX, qB⟩ := hSw); obtain ⟨_, _, _, _, _, _, _, _, _, _, _⟩ := blk5 qP; obtain ⟨_, _, _, _, _, _, _, _, _, _, _⟩ := blk5 qX; go_simp; (try with_reducible rfl)))
      try simp only [Act.put, List.getElem_toArray, List.getElem_cons_succ, List.getElem_cons_zero, List.setIfInBounds_toArray, List.set_cons_zero, List.set_cons_succ]
      refine wpAnyH_ready (rs := [2]) (by kernel_rfl) (by simp) ?_
      refine AllReadyH.cons (o := _) rfl (fun K hK => ?_) (AllReadyH.nil)
      go_simp
      (go_at_call 40; refine (sBT_is _ HP.out HY3.out HY2.out).mono ?_; rintro e x0c ⟨rfl, hw_0c⟩)
      refine hK.out _ _ ⟨blk_next hP_0 hw_0c, blk_next hX_0 hw_0c, bel_next hB_0 hw_0c⟩ (fun hHeld => ?_)
      clear hK K
      try simp only [Act.put, List.getElem_toArray, List.getElem_cons_succ, List.getElem_cons_zero, List.setIfInBounds_toArray, List.set_cons_zero, List.set_cons_succ]
      obtain ⟨hP_0c, hX_0c, hB_0c⟩ := id hHeld
      refine wpAnyH_take (i := 3) (oi := _) (v := ?_) rfl (by kernel_rfl) (by kernel_rfl) (by kernel_rfl) (fun _ _ _ h => h) (Or.inl ⟨by rfl, ?_⟩) (by assumption) ?_
      (rotate_left); (focus (intro wv hSw; (obtain ⟨qP, qX, qB⟩ := hSw); obtain ⟨_, _, _, _, _, _, _, _, _, _, _⟩ := blk5 qP; obtain ⟨_, _, _, _, _, _, _, _, _, _, _⟩ := blk5 qX; go_simp; (try with_reducible rfl)))
      try simp only [Act.put, List.getElem_toArray, List.getElem_cons_succ, List.getElem_cons_zero, List.setIfInBounds_toArray, List.set_cons_zero, List.set_cons_succ]
      refine wpAnyH_done (by kernel_rfl) ?_ _
      have hP4 := hP_0c
      have hX4 := hX_0c
      have hB4 := hB_0c
      clear hP_0 hX_0 hB_0 hP_0c hX_0c hB_0c hHeld
      obtain ⟨cP4_0, cP4_1, cP4_2, cP4_3, cP4_4, fP4_0, fP4_1, fP4_2, fP4_3, fP4_4, zP4⟩ := blk5 hP4
      go_wp2_with fail
      refine (iBV_is _ HP.out).mono ?_; rintro e' w5 ⟨rfl, hw5⟩
      have hP5 := blk_next hP4 hw5
      have hX5 := blk_next hX4 hw5
      have hB5 := bel_next hB4 hw5
      obtain ⟨cP5_0, cP5_1, cP5_2, cP5_3, cP5_4, fP5_0, fP5_1, fP5_2, fP5_3, fP5_4, zP5⟩ := blk5 hP5
      have zPS := blk_lt hP5
      have zXS := blk_lt hX5
      have hS6 : (w5.alloc (.cells #[.int .i64 x0, .int .i64 x3] 24)).heap[w5.heap.size]? = some (.cells #[.int .i64 x0, .int .i64 x3] 24) := by have := blk_new w5 (.cells #[.int .i64 x0, .int .i64 x3] 24); simpa using this
      have hP6 := blk_old hP5 (.cells #[.int .i64 x0, .int .i64 x3] 24)
      have hX6 := blk_old hX5 (.cells #[.int .i64 x0, .int .i64 x3] 24)
      have hB6 := hB5.alloc hB5.size (.cells #[.int .i64 x0, .int .i64 x3] 24)
      have zBS := hB5.size
      go_wp2_with fail
      refine wp_region_held_drew (S := (fun w' => w'.heap[w1.heap.size]? = some (.cells #[.int .i64 x0, .int .i64 x1, .int .i64 x2, .int .i64 x3, .int .i64 x4] 30) ∧ w'.heap[w2.heap.size]? = some (.cells #[.int .i64 y3, .int .i64 y2, .int .i64 x0, .int .i64 x1, .int .i64 x4] 30) ∧ w'.heap[w5.heap.size]? = some (.cells #[.int .i64 x0, .int .i64 x3] 24) ∧ Below w.heap.size w w')) (by kernel_rfl) ⟨hP6, hX6, hS6, hB6.drew⟩ (fun hHeld => ?_)
      obtain ⟨hP_0, hX_0, hS_0, hB_0⟩ := id hHeld
      refine wpAnyH_take (i := 0) (oi := _) (v := ?_) rfl (by kernel_rfl) (by kernel_rfl) (by kernel_rfl) (fun _ _ _ h => h) (Or.inl ⟨by rfl, ?_⟩) (by assumption) ?_
      (rotate_left); (focus (intro wv hSw; (obtain ⟨qP, qX, qS, qB⟩ := hSw); obtain ⟨_, _, _, _, _, _, _, _, _, _, _⟩ := blk5 qP; obtain ⟨_, _, _, _, _, _, _, _, _, _, _⟩ := blk5 qX; obtain ⟨_, _, _, _, _⟩ := blk2 qS; go_simp; (try with_reducible rfl)))
      try simp only [Act.put, List.getElem_toArray, List.getElem_cons_succ, List.getElem_cons_zero, List.setIfInBounds_toArray, List.set_cons_zero, List.set_cons_succ]
      refine wpAnyH_ready (rs := [1]) (by kernel_rfl) (by simp) ?_
      refine AllReadyH.cons (o := _) rfl (fun K hK => ?_) (AllReadyH.nil)
      go_simp
      (go_at_call 17; refine (iBV_is _ HQ1.out).mono ?_; rintro e x0c ⟨rfl, hw_0c⟩)
      refine hK.out _ _ ⟨blk_next hP_0 hw_0c, blk_next hX_0 hw_0c, blk_next hS_0 hw_0c, bel_next hB_0 hw_0c⟩ (fun hHeld => ?_)
      clear hK K
      try simp only [Act.put, List.getElem_toArray, List.getElem_cons_succ, List.getElem_cons_zero, List.setIfInBounds_toArray, List.set_cons_zero, List.set_cons_succ]
      obtain ⟨hP_0c, hX_0c, hS_0c, hB_0c⟩ := id hHeld
      refine wpAnyH_take (i := 2) (oi := _) (v := ?_) rfl (by kernel_rfl) (by kernel_rfl) (by kernel_rfl) (fun _ _ _ h => h) (Or.inl ⟨by rfl, ?_⟩) (by assumption) ?_
      (rotate_left); (focus (intro wv hSw; (obtain ⟨qP, qX, qS, qB⟩ := hSw); obtain ⟨_, _, _, _, _, _, _, _, _, _, _⟩ := blk5 qP; obtain ⟨_, _, _, _, _, _, _, _, _, _, _⟩ := blk5 qX; obtain ⟨_, _, _, _, _⟩ := blk2 qS; go_simp; (try with_reducible rfl)))
      try simp only [Act.put, List.getElem_toArray, List.getElem_cons_succ, List.getElem_cons_zero, List.setIfInBounds_toArray, List.set_cons_zero, List.set_cons_succ]
      refine wpAnyH_take (i := 3) (oi := _) (v := ?_) rfl (by kernel_rfl) (by kernel_rfl) (by kernel_rfl) (fun _ _ _ h => h) (Or.inl ⟨by rfl, ?_⟩) (by assumption) ?_
      (rotate_left); (focus (intro wv hSw; (obtain ⟨qP, qX, qS, qB⟩ := hSw); obtain ⟨_, _, _, _, _, _, _, _, _, _, _⟩ := blk5 qP; obtain ⟨_, _, _, _, _, _, _, _, _, _, _⟩ := blk5 qX; obtain ⟨_, _, _, _, _⟩ := blk2 qS; go_simp; (try with_reducible rfl)))
      try simp only [Act.put, List.getElem_toArray, List.getElem_cons_succ, List.getElem_cons_zero, List.setIfInBounds_toArray, List.set_cons_zero, List.set_cons_succ]
      refine wpAnyH_take (i := 7) (oi := _) (v := ?_) rfl (by kernel_rfl) (by kernel_rfl) (by kernel_rfl) (fun _ _ _ h => h) (Or.inl ⟨by rfl, ?_⟩) (by assumption) ?_
      (rotate_left); (focus (intro wv hSw; (obtain ⟨qP, qX, qS, qB⟩ := hSw); obtain ⟨_, _, _, _, _, _, _, _, _, _, _⟩ := blk5 qP; obtain ⟨_, _, _, _, _, _, _, _, _, _, _⟩ := blk5 qX; obtain ⟨_, _, _, _, _⟩ := blk2 qS; go_simp; (try with_reducible rfl)))
      try simp only [Act.put, List.getElem_toArray, List.getElem_cons_succ, List.getElem_cons_zero, List.setIfInBounds_toArray, List.set_cons_zero, List.set_cons_succ]
      refine wpAnyH_ready (rs := [4]) (by kernel_rfl) (by simp) ?_
      refine AllReadyH.cons (o := _) rfl (fun K hK => ?_) (AllReadyH.nil)
      go_simp
      (go_at_call 39; refine (iBT_is _ HQ1.out HY1.out HY0.out).mono ?_; rintro e x0cc ⟨rfl, hw_0cc⟩)
      refine hK.out _ _ ⟨blk_next hP_0c hw_0cc, blk_next hX_0c hw_0cc, blk_next hS_0c hw_0cc, bel_next hB_0c hw_0cc⟩ (fun hHeld => ?_)
      clear hK K
      try simp only [Act.put, List.getElem_toArray, List.getElem_cons_succ, List.getElem_cons_zero, List.setIfInBounds_toArray, List.set_cons_zero, List.set_cons_succ]
      obtain ⟨hP_0cc, hX_0cc, hS_0cc, hB_0cc⟩ := id hHeld
      refine wpAnyH_ready (rs := [5]) (by kernel_rfl) (by simp) ?_
      refine AllReadyH.cons (o := _) rfl (fun K hK => ?_) (AllReadyH.nil)
      go_simp
      (go_at_call 39; refine (iBT_is _ HQ2.out HZ2.out HZ3.out).mono ?_; rintro e x0ccc ⟨rfl, hw_0ccc⟩)
      refine hK.out _ _ ⟨blk_next hP_0cc hw_0ccc, blk_next hX_0cc hw_0ccc, blk_next hS_0cc hw_0ccc, bel_next hB_0cc hw_0ccc⟩ (fun hHeld => ?_)
      clear hK K
      try simp only [Act.put, List.getElem_toArray, List.getElem_cons_succ, List.getElem_cons_zero, List.setIfInBounds_toArray, List.set_cons_zero, List.set_cons_succ]
      obtain ⟨hP_0ccc, hX_0ccc, hS_0ccc, hB_0ccc⟩ := id hHeld
      refine wpAnyH_ready (rs := [6]) (by kernel_rfl) (by simp) ?_
      refine AllReadyH.cons (o := _) rfl (fun K hK => ?_) (AllReadyH.nil)
      go_simp
      (go_at_call 39; refine (iBT_is _ HQ3.out HZ0.out HZ1.out).mono ?_; rintro e x0cccc ⟨rfl, hw_0cccc⟩)
      refine hK.out _ _ ⟨blk_next hP_0ccc hw_0cccc, blk_next hX_0ccc hw_0cccc, blk_next hS_0ccc hw_0cccc, bel_next hB_0ccc hw_0cccc⟩ (fun hHeld => ?_)
      clear hK K
      try simp only [Act.put, List.getElem_toArray, List.getElem_cons_succ, List.getElem_cons_zero, List.setIfInBounds_toArray, List.set_cons_zero, List.set_cons_succ]
      obtain ⟨hP_0cccc, hX_0cccc, hS_0cccc, hB_0cccc⟩ := id hHeld
      refine wpAnyH_take (i := 8) (oi := _) (v := ?_) rfl (by kernel_rfl) (by kernel_rfl) (by kernel_rfl) (fun _ _ _ h => h) (Or.inl ⟨by rfl, ?_⟩) (by assumption) ?_
      (rotate_left); (focus (intro wv hSw; (obtain ⟨qP, qX, qS, qB⟩ := hSw); obtain ⟨_, _, _, _, _, _, _, _, _, _, _⟩ := blk5 qP; obtain ⟨_, _, _, _, _, _, _, _, _, _, _⟩ := blk5 qX; obtain ⟨_, _, _, _, _⟩ := blk2 qS; go_simp; (try with_reducible rfl)))
      try simp only [Act.put, List.getElem_toArray, List.getElem_cons_succ, List.getElem_cons_zero, List.setIfInBounds_toArray, List.set_cons_zero, List.set_cons_succ]
      refine wpAnyH_take (i := 9) (oi := _) (v := ?_) rfl (by kernel_rfl) (by kernel_rfl) (by kernel_rfl) (fun _ _ _ h => h) (Or.inl ⟨by rfl, ?_⟩) (by assumption) ?_
      (rotate_left); (focus (intro wv hSw; (obtain ⟨qP, qX, qS, qB⟩ := hSw); obtain ⟨_, _, _, _, _, _, _, _, _, _, _⟩ := blk5 qP; obtain ⟨_, _, _, _, _, _, _, _, _, _, _⟩ := blk5 qX; obtain ⟨_, _, _, _, _⟩ := blk2 qS; go_simp; (try with_reducible rfl)))
      try simp only [Act.put, List.getElem_toArray, List.getElem_cons_succ, List.getElem_cons_zero, List.setIfInBounds_toArray, List.set_cons_zero, List.set_cons_succ]
      refine wpAnyH_take (i := 10) (oi := _) (v := ?_) rfl (by kernel_rfl) (by kernel_rfl) (by kernel_rfl) (fun _ _ _ h => h) (Or.inl ⟨by rfl, ?_⟩) (by assumption) ?_
      (rotate_left); (focus (intro wv hSw; (obtain ⟨qP, qX, qS, qB⟩ := hSw); obtain ⟨_, _, _, _, _, _, _, _, _, _, _⟩ := blk5 qP; obtain ⟨_, _, _, _, _, _, _, _, _, _, _⟩ := blk5 qX; obtain ⟨_, _, _, _, _⟩ := blk2 qS; go_simp; (try with_reducible rfl)))
      try simp only [Act.put, List.getElem_toArray, List.getElem_cons_succ, List.getElem_cons_zero, List.setIfInBounds_toArray, List.set_cons_zero, List.set_cons_succ]
      refine wpAnyH_take (i := 11) (oi := _) (v := ?_) rfl (by kernel_rfl) (by kernel_rfl) (by kernel_rfl) (fun _ _ _ h => h) (Or.inl ⟨by rfl, ?_⟩) (by assumption) ?_
      (rotate_left); (focus (intro wv hSw; (obtain ⟨qP, qX, qS, qB⟩ := hSw); obtain ⟨_, _, _, _, _, _, _, _, _, _, _⟩ := blk5 qP; obtain ⟨_, _, _, _, _, _, _, _, _, _, _⟩ := blk5 qX; obtain ⟨_, _, _, _, _⟩ := blk2 qS; go_simp; (try with_reducible rfl)))
      try simp only [Act.put, List.getElem_toArray, List.getElem_cons_succ, List.getElem_cons_zero, List.setIfInBounds_toArray, List.set_cons_zero, List.set_cons_succ]
      refine wpAnyH_take (i := 13) (oi := _) (v := ?_) rfl (by kernel_rfl) (by kernel_rfl) (by kernel_rfl) (fun _ _ _ h => h) (Or.inl ⟨by rfl, ?_⟩) (by assumption) ?_
      (rotate_left); (focus (intro wv hSw; (obtain ⟨qP, qX, qS, qB⟩ := hSw); obtain ⟨_, _, _, _, _, _, _, _, _, _, _⟩ := blk5 qP; obtain ⟨_, _, _, _, _, _, _, _, _, _, _⟩ := blk5 qX; obtain ⟨_, _, _, _, _⟩ := blk2 qS; go_simp; (try with_reducible rfl)))
      try simp only [Act.put, List.getElem_toArray, List.getElem_cons_succ, List.getElem_cons_zero, List.setIfInBounds_toArray, List.set_cons_zero, List.set_cons_succ]
      refine wpAnyH_ready (rs := [12]) (by kernel_rfl) (by simp) ?_
      refine AllReadyH.cons (o := _) rfl (fun K hK => ?_) (AllReadyH.nil)
      go_simp
      (go_at_call 36; refine (iPT_is _ HPL.out HY3.out).mono ?_; rintro e x0ccccc ⟨rfl, hw_0ccccc⟩)
      refine hK.out _ _ ⟨blk_next hP_0cccc hw_0ccccc, blk_next hX_0cccc hw_0ccccc, blk_next hS_0cccc hw_0ccccc, bel_next hB_0cccc hw_0ccccc⟩ (fun hHeld => ?_)
      clear hK K
      try simp only [Act.put, List.getElem_toArray, List.getElem_cons_succ, List.getElem_cons_zero, List.setIfInBounds_toArray, List.set_cons_zero, List.set_cons_succ]
      obtain ⟨hP_0ccccc, hX_0ccccc, hS_0ccccc, hB_0ccccc⟩ := id hHeld
      refine wpAnyH_ready (rs := [14]) (by kernel_rfl) (by simp) ?_
      refine AllReadyH.cons (o := _) rfl (fun K hK => ?_) (AllReadyH.nil)
      go_simp
      (go_at_call 29; refine (iUB_is _ HU.out).mono ?_; rintro e x0cccccc ⟨rfl, hw_0cccccc⟩)
      refine hK.out _ _ ⟨blk_next hP_0ccccc hw_0cccccc, blk_next hX_0ccccc hw_0cccccc, blk_next hS_0ccccc hw_0cccccc, bel_next hB_0ccccc hw_0cccccc⟩ (fun hHeld => ?_)
      clear hK K
      try simp only [Act.put, List.getElem_toArray, List.getElem_cons_succ, List.getElem_cons_zero, List.setIfInBounds_toArray, List.set_cons_zero, List.set_cons_succ]
      obtain ⟨hP_0cccccc, hX_0cccccc, hS_0cccccc, hB_0cccccc⟩ := id hHeld
      refine wpAnyH_take (i := 15) (oi := _) (v := ?_) rfl (by kernel_rfl) (by kernel_rfl) (by kernel_rfl) (fun _ _ _ h => h) (Or.inl ⟨by rfl, ?_⟩) (by assumption) ?_
      (rotate_left); (focus (intro wv hSw; (obtain ⟨qP, qX, qS, qB⟩ := hSw); obtain ⟨_, _, _, _, _, _, _, _, _, _, _⟩ := blk5 qP; obtain ⟨_, _, _, _, _, _, _, _, _, _, _⟩ := blk5 qX; obtain ⟨_, _, _, _, _⟩ := blk2 qS; go_simp; (try with_reducible rfl)))
      try simp only [Act.put, List.getElem_toArray, List.getElem_cons_succ, List.getElem_cons_zero, List.setIfInBounds_toArray, List.set_cons_zero, List.set_cons_succ]
      refine wpAnyH_take (i := 16) (oi := _) (v := ?_) rfl (by kernel_rfl) (by kernel_rfl) (by kernel_rfl) (fun _ _ _ h => h) (Or.inl ⟨by rfl, ?_⟩) (by assumption) ?_
      (rotate_left); (focus (intro wv hSw; (obtain ⟨qP, qX, qS, qB⟩ := hSw); obtain ⟨_, _, _, _, _, _, _, _, _, _, _⟩ := blk5 qP; obtain ⟨_, _, _, _, _, _, _, _, _, _, _⟩ := blk5 qX; obtain ⟨_, _, _, _, _⟩ := blk2 qS; go_simp; (try with_reducible rfl)))
      try simp only [Act.put, List.getElem_toArray, List.getElem_cons_succ, List.getElem_cons_zero, List.setIfInBounds_toArray, List.set_cons_zero, List.set_cons_succ]
      refine wpAnyH_done (by kernel_rfl) ?_ _
      go_wp2_with fail
      go_ret
      exact ⟨ret_bool rfl, hB_0cccccc⟩

set_option maxRecDepth 100000 in
theorem lifted (os : Os) (started : os.Started) (H : Type) (enc : TypeId × Value → H) :
    ReturnsInHanded {} Try.checked os 11 .any (Rows.fnBlockTurnSpec.pre6 enc Try.prog Try.f11 Rows.fnBlockTurnRow.domain false) (Rows.fnBlockTurnSpec.post enc Try.prog Try.f11 false true false false) := by
  refine returnsInHanded_of_change (C := Try.checked) own started (by kernel_rfl) Try.func11
    (ChangeSpec.witness6 (enc := enc) (C := Try.checked) false ⟨#[], #[.slice none 0 0], []⟩ 8 (by kernel_rfl) (by kernel_rfl) (by kernel_rfl) (by kernel_rfl)) ?_
  intro W base args ds gs before hval0 hW hcnd _
  have hval : ∀ (j : Nat) t v, Try.f11.params[j]? = some t → args[j]? = some v → Value.okWide Try.prog W .any base t v := hval0
  have hW' := hW
  obtain ⟨p, q, hA0, hV, rfl, hfz, hnd⟩ := hW
  have hA : DataW.TrodAll enc Try.prog W 0 (fun _ => true) true Try.f11.params.toList args.toList ds p := hA0
  rw [Try.params11] at hA hval
  obtain ⟨v0, vs0, d0, ds0, p0, q0, hargs, rfl, rfl, h0, r0⟩ := trodAll_cons hA
  obtain ⟨rfl, rfl, rfl⟩ := trodAll_nil r0
  obtain rfl : args = #[v0] := by cases args; simp_all
  obtain ⟨rfl, rfl⟩ := trodVars_none hV
  have k0 := h0
  have lt0 : ∀ x ∈ p0, x.block < W.heap.size := by obtain ⟨m, hm⟩ := k0; exact DataW.trod_lt m _ _ _ hm
  obtain ⟨a0, len0, cap0, rfl⟩ := okWide_slice Try.underlying22 (hval 0 22 v0 rfl rfl)
  have w0 : CodeOk W a0 len0 cap0 := by
    obtain ⟨fuel, hf⟩ := h0
    rcases open_ints Try.underlying22 Try.underlying5 (by kernel_rfl) hf with ⟨hcs, _⟩ | ⟨x, l, c, zs, hcs, _, hl, hm, hz, _, hcell, hwz⟩
    · simp [Value.cells] at hcs
      obtain ⟨rfl, rfl, rfl⟩ := hcs
      exact code_nil W
    · simp [Value.cells] at hcs
      obtain ⟨rfl, rfl, rfl⟩ := hcs
      exact code_ok hl hm (by simp at hz; omega) hcell hwz
  clear hA0 hval0
  refine (walk W a0 len0 cap0 w0).mono fun e W' ⟨he, bel⟩ => ?_
  subst he
  exact ⟨_, rfl, _, _, _, [], _, [], hW', trodAll_mk1 (shut_bool Try.underlying4 _), (trodAll_cons_mk (Below.trod laidOut (by kernel_rfl) (of_decide_eq_true (by kernel_rfl)) k0 bel lt0) trodAll_mk0), rfl, bel.frame _, fun h => by cases h⟩

theorem over : Rows.fnBlockTurnRow.holds Try.pinned (OpenSpec.ofChange Rows.fnBlockTurnSpec) :=
  OpenClaim.holds_of_wide 11 Try.f11 rfl rfl rfl rfl rfl rfl rfl ⟨rfl, rfl, rfl, rfl, rfl⟩ rfl rfl rfl rfl rfl (by kernel_rfl) Try.func11 (by kernel_rfl)
    (of_decide_eq_true (by kernel_rfl)) (by unfold Func.isWrapper; first | (rw [if_pos (by decide +kernel)]; kernel_rfl) | (rw [if_neg (by decide +kernel)]; exact ⟨rfl, rfl⟩))
    (fun os started H enc _ => lifted os started H enc)

/-- The statement. -/
theorem proved : Rows.FnBlockTurnSaid :=
  over
#print axioms proved
end Go.Proofs.Ytlahjgjjebkpjaa.fnBlockTurn
