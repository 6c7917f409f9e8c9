/- FnSameSpot: whatever the input, the law returns true, and its arguments read as they did. No conditions beyond those of the statement's row. -/
import Derived.Test.YtlahjgjjebkpjaaDf
import Derived.Test.YtlahjgjjebkpjaaVw
import Derived.Test.YtlahjgjjebkpjaaVx
namespace Go.Proofs.Ytlahjgjjebkpjaa.fnSameSpot
open Go.Proofs.Ytlahjgjjebkpjaa
open Go.ChangeShapes Go.WideShapes Go.ChangeAt Go.RowKit Go.Joins
set_option linter.unusedVariables false
set_option linter.unusedSimpArgs false
set_option linter.unnecessarySimpa false

theorem own : ownKnob Try.prog.godebug = none := by kernel_rfl
theorem laidOut : laidOutB Try.prog = true := by kernel_rfl

set_option maxRecDepth 100000 in
set_option maxHeartbeats 4000000 in
theorem walk (w : World) (a0 : Option Addr) (len0 cap0 : Nat) (w0 : CodeOk w a0 len0 cap0) :
    Calls Try.prog 7 #[.slice a0 len0 cap0] w fun e w' => e = .returned (.bool true) ∧ Below w.heap.size w w' := by
  by_cases hl : 1048576 < len0
  · have w0' := w0.2.1
    unfold maxLen at w0'
    clear w0
    go_enter Try.func7, Try.ntmps7
    go_wp2
    go_ret
    exact ⟨rfl, Below.refl _ _⟩
  · have w0' := w0.2.1
    unfold maxLen at w0'
    have hle := w0.1
    have HW := Lib.hid w0
    clear w0
    go_enter Try.func7, Try.ntmps7
    go_wp2_with fail
    refine (drSameSpot_any _ _ _ _ HW.out).mono ?_; rintro e w1 ⟨x0, x1, x2, y0, y1, y2, rfl, ⟨x0_0, x0_1⟩, ⟨x1_0, x1_1⟩, ⟨x2_0, x2_1⟩, ⟨y0_0, y0_1⟩, ⟨y1_0, y1_1⟩, ⟨y2_0, y2_1⟩, hB0⟩
    obtain ⟨p, hp⟩ : ∃ z, ssB x0 x1 x2 y0 y1 y2 = z := ⟨_, rfl⟩
    have HP := Lib.hid hp
    have HQ : Hid (ssB y0 y1 y2 x0 x1 x2 = p) := by show _ = _; rw [← hp]; unfold ssB; rw [Bool.eq_iff_iff]; simp only [Bool.and_eq_true, decide_eq_true_iff]; constructor <;> (rintro ⟨a, b, c, d⟩; exact ⟨b, a, c.symm, d.symm⟩)
    clear hp
    by_cases hd : 1 ≤ x2
    · have HD : Hid (ssB x0 x1 x2 (2 * x0) (2 * x1) (2 * x2) = true) := by show _ = _; unfold ssB; rw [spB_iff.2 (by omega), spB_iff.2 (by omega)]; simp; constructor <;> grind
      cases p
      all_goals
        have hP1 : (w1.alloc (.cells #[.int .i64 x0, .int .i64 x1, .int .i64 x2] 40)).heap[w1.heap.size]? = some (.cells #[.int .i64 x0, .int .i64 x1, .int .i64 x2] 40) := by have := blk_new w1 (.cells #[.int .i64 x0, .int .i64 x1, .int .i64 x2] 40); simpa using this
        have hB1 := hB0.alloc hB0.size (.cells #[.int .i64 x0, .int .i64 x1, .int .i64 x2] 40)
        have zBP := hB0.size
        have zPQ := blk_lt hP1
        have hQ2 : ((w1.alloc (.cells #[.int .i64 x0, .int .i64 x1, .int .i64 x2] 40)).alloc (.cells #[.int .i64 y0, .int .i64 y1, .int .i64 y2] 40)).heap[w1.heap.size + 1]? = some (.cells #[.int .i64 y0, .int .i64 y1, .int .i64 y2] 40) := by have := blk_new (w1.alloc (.cells #[.int .i64 x0, .int .i64 x1, .int .i64 x2] 40)) (.cells #[.int .i64 y0, .int .i64 y1, .int .i64 y2] 40); simpa using this
        have hP2 := blk_old hP1 (.cells #[.int .i64 y0, .int .i64 y1, .int .i64 y2] 40)
        have hB2 := hB1.alloc hB1.size (.cells #[.int .i64 y0, .int .i64 y1, .int .i64 y2] 40)
        have zBQ := hB1.size
        obtain ⟨cP2_0, cP2_1, cP2_2, fP2_0, fP2_1, fP2_2, zP2⟩ := blk3 hP2
        obtain ⟨cQ2_0, cQ2_1, cQ2_2, fQ2_0, fQ2_1, fQ2_2, zQ2⟩ := blk3 hQ2
        go_wp2_with fail
        refine (iSS_is _ HP.out).mono ?_; rintro e' w3 ⟨rfl, hw3⟩
        have hP3 := blk_next hP2 hw3
        have hQ3 := blk_next hQ2 hw3
        have hB3 := bel_next hB2 hw3
        obtain ⟨cP3_0, cP3_1, cP3_2, fP3_0, fP3_1, fP3_2, zP3⟩ := blk3 hP3
        obtain ⟨cQ3_0, cQ3_1, cQ3_2, fQ3_0, fQ3_1, fQ3_2, zQ3⟩ := blk3 hQ3
        go_wp2_with fail
        refine (sSS_is _ HP.out).mono ?_; rintro e' w4 ⟨rfl, hw4⟩
        have hP4 := blk_next hP3 hw4
        have hQ4 := blk_next hQ3 hw4
        have hB4 := bel_next hB3 hw4
        obtain ⟨cP4_0, cP4_1, cP4_2, fP4_0, fP4_1, fP4_2, zP4⟩ := blk3 hP4
        obtain ⟨cQ4_0, cQ4_1, cQ4_2, fQ4_0, fQ4_1, fQ4_2, zQ4⟩ := blk3 hQ4
        have zPD := blk_lt hP4
        have zQD := blk_lt hQ4
        have hD5 : (w4.alloc (.cells #[.int .i64 (2 * x0), .int .i64 (2 * x1), .int .i64 (2 * x2)] 40)).heap[w4.heap.size]? = some (.cells #[.int .i64 (2 * x0), .int .i64 (2 * x1), .int .i64 (2 * x2)] 40) := by have := blk_new w4 (.cells #[.int .i64 (2 * x0), .int .i64 (2 * x1), .int .i64 (2 * x2)] 40); simpa using this
        have hP5 := blk_old hP4 (.cells #[.int .i64 (2 * x0), .int .i64 (2 * x1), .int .i64 (2 * x2)] 40)
        have hQ5 := blk_old hQ4 (.cells #[.int .i64 (2 * x0), .int .i64 (2 * x1), .int .i64 (2 * x2)] 40)
        have hB5 := hB4.alloc hB4.size (.cells #[.int .i64 (2 * x0), .int .i64 (2 * x1), .int .i64 (2 * x2)] 40)
        have zBD := hB4.size
        go_wp2_with fail
        refine wp_region_held_drew (S := (fun w' => w'.heap[w1.heap.size]? = some (.cells #[.int .i64 x0, .int .i64 x1, .int .i64 x2] 40) ∧ w'.heap[w1.heap.size + 1]? = some (.cells #[.int .i64 y0, .int .i64 y1, .int .i64 y2] 40) ∧ w'.heap[w4.heap.size]? = some (.cells #[.int .i64 (2 * x0), .int .i64 (2 * x1), .int .i64 (2 * x2)] 40) ∧ Below w.heap.size w w')) (by kernel_rfl) ⟨hP5, hQ5, hD5, hB5.drew⟩ (fun hHeld => ?_)
        obtain ⟨hP_0, hQ_0, hD_0, hB_0⟩ := id hHeld
        refine wpAnyH_take (i := 0) (oi := _) (v := ?_) rfl (by kernel_rfl) (by kernel_rfl) (by kernel_rfl) (fun _ _ _ h => h) (Or.inl ⟨by rfl, ?_⟩) (by assumption) ?_
        (rotate_left); (focus (intro wv hSw; (obtain ⟨qP, qQ, qD, qB⟩ := hSw); obtain ⟨_, _, _, _, _, _, _⟩ := blk3 qP; obtain ⟨_, _, _, _, _, _, _⟩ := blk3 qQ; obtain ⟨_, _, _, _, _, _, _⟩ := blk3 qD; go_simp; (try with_reducible rfl)))
        try simp only [Act.put, List.getElem_toArray, List.getElem_cons_succ, List.getElem_cons_zero, List.setIfInBounds_toArray, List.set_cons_zero, List.set_cons_succ]
        refine wpAnyH_take (i := 1) (oi := _) (v := ?_) rfl (by kernel_rfl) (by kernel_rfl) (by kernel_rfl) (fun _ _ _ h => h) (Or.inl ⟨by rfl, ?_⟩) (by assumption) ?_
        (rotate_left); (focus (intro wv hSw; (obtain ⟨qP, qQ, qD, qB⟩ := hSw); obtain ⟨_, _, _, _, _, _, _⟩ := blk3 qP; obtain ⟨_, _, _, _, _, _, _⟩ := blk3 qQ; obtain ⟨_, _, _, _, _, _, _⟩ := blk3 qD; go_simp; (try with_reducible rfl)))
        try simp only [Act.put, List.getElem_toArray, List.getElem_cons_succ, List.getElem_cons_zero, List.setIfInBounds_toArray, List.set_cons_zero, List.set_cons_succ]
        refine wpAnyH_take (i := 3) (oi := _) (v := ?_) rfl (by kernel_rfl) (by kernel_rfl) (by kernel_rfl) (fun _ _ _ h => h) (Or.inl ⟨by rfl, ?_⟩) (by assumption) ?_
        (rotate_left); (focus (intro wv hSw; (obtain ⟨qP, qQ, qD, qB⟩ := hSw); obtain ⟨_, _, _, _, _, _, _⟩ := blk3 qP; obtain ⟨_, _, _, _, _, _, _⟩ := blk3 qQ; obtain ⟨_, _, _, _, _, _, _⟩ := blk3 qD; go_simp; (try with_reducible rfl)))
        try simp only [Act.put, List.getElem_toArray, List.getElem_cons_succ, List.getElem_cons_zero, List.setIfInBounds_toArray, List.set_cons_zero, List.set_cons_succ]
        refine wpAnyH_ready (rs := [2]) (by kernel_rfl) (by simp) ?_
        refine AllReadyH.cons (o := _) rfl (fun K hK => ?_) (AllReadyH.nil)
        go_simp
        (go_at_call 25; refine (iSS_is _ HQ.out).mono ?_; rintro e x0c ⟨rfl, hw_0c⟩)
        refine hK.out _ _ ⟨blk_next hP_0 hw_0c, blk_next hQ_0 hw_0c, blk_next hD_0 hw_0c, bel_next hB_0 hw_0c⟩ (fun hHeld => ?_)
        clear hK K
        try simp only [Act.put, List.getElem_toArray, List.getElem_cons_succ, List.getElem_cons_zero, List.setIfInBounds_toArray, List.set_cons_zero, List.set_cons_succ]
        obtain ⟨hP_0c, hQ_0c, hD_0c, hB_0c⟩ := id hHeld
        refine wpAnyH_take (i := 4) (oi := _) (v := ?_) rfl (by kernel_rfl) (by kernel_rfl) (by kernel_rfl) (fun _ _ _ h => h) (Or.inl ⟨by rfl, ?_⟩) (by assumption) ?_
        (rotate_left); (focus (intro wv hSw; (obtain ⟨qP, qQ, qD, qB⟩ := hSw); obtain ⟨_, _, _, _, _, _, _⟩ := blk3 qP; obtain ⟨_, _, _, _, _, _, _⟩ := blk3 qQ; obtain ⟨_, _, _, _, _, _, _⟩ := blk3 qD; go_simp; (try with_reducible rfl)))
        try simp only [Act.put, List.getElem_toArray, List.getElem_cons_succ, List.getElem_cons_zero, List.setIfInBounds_toArray, List.set_cons_zero, List.set_cons_succ]
        refine wpAnyH_take (i := 5) (oi := _) (v := ?_) rfl (by kernel_rfl) (by kernel_rfl) (by kernel_rfl) (fun _ _ _ h => h) (Or.inl ⟨by rfl, ?_⟩) (by assumption) ?_
        (rotate_left); (focus (intro wv hSw; (obtain ⟨qP, qQ, qD, qB⟩ := hSw); obtain ⟨_, _, _, _, _, _, _⟩ := blk3 qP; obtain ⟨_, _, _, _, _, _, _⟩ := blk3 qQ; obtain ⟨_, _, _, _, _, _, _⟩ := blk3 qD; go_simp; (try with_reducible rfl)))
        try simp only [Act.put, List.getElem_toArray, List.getElem_cons_succ, List.getElem_cons_zero, List.setIfInBounds_toArray, List.set_cons_zero, List.set_cons_succ]
        refine wpAnyH_take (i := 6) (oi := _) (v := ?_) rfl (by kernel_rfl) (by kernel_rfl) (by kernel_rfl) (fun _ _ _ h => h) (Or.inl ⟨by rfl, ?_⟩) (by assumption) ?_
        (rotate_left); (focus (intro wv hSw; (obtain ⟨qP, qQ, qD, qB⟩ := hSw); obtain ⟨_, _, _, _, _, _, _⟩ := blk3 qP; obtain ⟨_, _, _, _, _, _, _⟩ := blk3 qQ; obtain ⟨_, _, _, _, _, _, _⟩ := blk3 qD; go_simp; (try with_reducible rfl)))
        try simp only [Act.put, List.getElem_toArray, List.getElem_cons_succ, List.getElem_cons_zero, List.setIfInBounds_toArray, List.set_cons_zero, List.set_cons_succ]
        refine wpAnyH_take (i := 7) (oi := _) (v := ?_) rfl (by kernel_rfl) (by kernel_rfl) (by kernel_rfl) (fun _ _ _ h => h) (Or.inl ⟨by rfl, ?_⟩) (by assumption) ?_
        (rotate_left); (focus (intro wv hSw; (obtain ⟨qP, qQ, qD, qB⟩ := hSw); obtain ⟨_, _, _, _, _, _, _⟩ := blk3 qP; obtain ⟨_, _, _, _, _, _, _⟩ := blk3 qQ; obtain ⟨_, _, _, _, _, _, _⟩ := blk3 qD; go_simp; (try with_reducible rfl)))
        try simp only [Act.put, List.getElem_toArray, List.getElem_cons_succ, List.getElem_cons_zero, List.setIfInBounds_toArray, List.set_cons_zero, List.set_cons_succ]
        refine wpAnyH_take (i := 9) (oi := _) (v := ?_) rfl (by kernel_rfl) (by kernel_rfl) (by kernel_rfl) (fun _ _ _ h => h) (Or.inl ⟨by rfl, ?_⟩) (by assumption) ?_
        (rotate_left); (focus (intro wv hSw; (obtain ⟨qP, qQ, qD, qB⟩ := hSw); obtain ⟨_, _, _, _, _, _, _⟩ := blk3 qP; obtain ⟨_, _, _, _, _, _, _⟩ := blk3 qQ; obtain ⟨_, _, _, _, _, _, _⟩ := blk3 qD; go_simp; (try with_reducible rfl)))
        try simp only [Act.put, List.getElem_toArray, List.getElem_cons_succ, List.getElem_cons_zero, List.setIfInBounds_toArray, List.set_cons_zero, List.set_cons_succ]
        refine wpAnyH_take (i := 10) (oi := _) (v := ?_) rfl (by kernel_rfl) (by kernel_rfl) (by kernel_rfl) (fun _ _ _ h => h) (Or.inl ⟨by rfl, ?_⟩) (by assumption) ?_
        (rotate_left); (focus (intro wv hSw; (obtain ⟨qP, qQ, qD, qB⟩ := hSw); obtain ⟨_, _, _, _, _, _, _⟩ := blk3 qP; obtain ⟨_, _, _, _, _, _, _⟩ := blk3 qQ; obtain ⟨_, _, _, _, _, _, _⟩ := blk3 qD; go_simp; (try with_reducible rfl)))
        try simp only [Act.put, List.getElem_toArray, List.getElem_cons_succ, List.getElem_cons_zero, List.setIfInBounds_toArray, List.set_cons_zero, List.set_cons_succ]
        refine wpAnyH_take (i := 11) (oi := _) (v := ?_) rfl (by kernel_rfl) (by kernel_rfl) (by kernel_rfl) (fun _ _ _ h => h) (Or.inl ⟨by rfl, ?_⟩) (by assumption) ?_
        (rotate_left); (focus (intro wv hSw; (obtain ⟨qP, qQ, qD, qB⟩ := hSw); obtain ⟨_, _, _, _, _, _, _⟩ := blk3 qP; obtain ⟨_, _, _, _, _, _, _⟩ := blk3 qQ; obtain ⟨_, _, _, _, _, _, _⟩ := blk3 qD; go_simp; (try with_reducible rfl)))
        try simp only [Act.put, List.getElem_toArray, List.getElem_cons_succ, List.getElem_cons_zero, List.setIfInBounds_toArray, List.set_cons_zero, List.set_cons_succ]
        refine wpAnyH_ready (rs := [8]) (by kernel_rfl) (by simp) ?_
        refine AllReadyH.cons (o := _) rfl (fun K hK => ?_) (AllReadyH.nil)
        go_simp
        (go_at_call 25; refine (iSS_is _ HD.out).mono ?_; rintro e x0cc ⟨rfl, hw_0cc⟩)
        refine hK.out _ _ ⟨blk_next hP_0c hw_0cc, blk_next hQ_0c hw_0cc, blk_next hD_0c hw_0cc, bel_next hB_0c hw_0cc⟩ (fun hHeld => ?_)
        clear hK K
        try simp only [Act.put, List.getElem_toArray, List.getElem_cons_succ, List.getElem_cons_zero, List.setIfInBounds_toArray, List.set_cons_zero, List.set_cons_succ]
        obtain ⟨hP_0cc, hQ_0cc, hD_0cc, hB_0cc⟩ := id hHeld
        refine wpAnyH_take (i := 12) (oi := _) (v := ?_) rfl (by kernel_rfl) (by kernel_rfl) (by kernel_rfl) (fun _ _ _ h => h) (Or.inl ⟨by rfl, ?_⟩) (by assumption) ?_
        (rotate_left); (focus (intro wv hSw; (obtain ⟨qP, qQ, qD, qB⟩ := hSw); obtain ⟨_, _, _, _, _, _, _⟩ := blk3 qP; obtain ⟨_, _, _, _, _, _, _⟩ := blk3 qQ; obtain ⟨_, _, _, _, _, _, _⟩ := blk3 qD; go_simp; (try with_reducible rfl)))
        try simp only [Act.put, List.getElem_toArray, List.getElem_cons_succ, List.getElem_cons_zero, List.setIfInBounds_toArray, List.set_cons_zero, List.set_cons_succ]
        refine wpAnyH_take (i := 13) (oi := _) (v := ?_) rfl (by kernel_rfl) (by kernel_rfl) (by kernel_rfl) (fun _ _ _ h => h) (Or.inl ⟨by rfl, ?_⟩) (by assumption) ?_
        (rotate_left); (focus (intro wv hSw; (obtain ⟨qP, qQ, qD, qB⟩ := hSw); obtain ⟨_, _, _, _, _, _, _⟩ := blk3 qP; obtain ⟨_, _, _, _, _, _, _⟩ := blk3 qQ; obtain ⟨_, _, _, _, _, _, _⟩ := blk3 qD; go_simp; (try with_reducible rfl)))
        try simp only [Act.put, List.getElem_toArray, List.getElem_cons_succ, List.getElem_cons_zero, List.setIfInBounds_toArray, List.set_cons_zero, List.set_cons_succ]
        refine wpAnyH_take (i := 14) (oi := _) (v := ?_) rfl (by kernel_rfl) (by kernel_rfl) (by kernel_rfl) (fun _ _ _ h => h) (Or.inl ⟨by rfl, ?_⟩) (by assumption) ?_
        (rotate_left); (focus (intro wv hSw; (obtain ⟨qP, qQ, qD, qB⟩ := hSw); obtain ⟨_, _, _, _, _, _, _⟩ := blk3 qP; obtain ⟨_, _, _, _, _, _, _⟩ := blk3 qQ; obtain ⟨_, _, _, _, _, _, _⟩ := blk3 qD; go_simp; (try with_reducible rfl)))
        try simp only [Act.put, List.getElem_toArray, List.getElem_cons_succ, List.getElem_cons_zero, List.setIfInBounds_toArray, List.set_cons_zero, List.set_cons_succ]
        refine wpAnyH_ready (rs := [15]) (by kernel_rfl) (by simp) ?_
        refine AllReadyH.cons (o := _) rfl (fun K hK => ?_) (AllReadyH.nil)
        go_simp
        (go_at_call 15; refine (alive_bel _).mono ?_; rintro e x0ccc ⟨rfl, hw_0ccc⟩)
        refine hK.out _ _ ⟨blk_next hP_0cc hw_0ccc, blk_next hQ_0cc hw_0ccc, blk_next hD_0cc hw_0ccc, bel_next hB_0cc hw_0ccc⟩ (fun hHeld => ?_)
        clear hK K
        try simp only [Act.put, List.getElem_toArray, List.getElem_cons_succ, List.getElem_cons_zero, List.setIfInBounds_toArray, List.set_cons_zero, List.set_cons_succ]
        obtain ⟨hP_0ccc, hQ_0ccc, hD_0ccc, hB_0ccc⟩ := id hHeld
        refine wpAnyH_take (i := 16) (oi := _) (v := ?_) rfl (by kernel_rfl) (by kernel_rfl) (by kernel_rfl) (fun _ _ _ h => h) (Or.inl ⟨by rfl, ?_⟩) (by assumption) ?_
        (rotate_left); (focus (intro wv hSw; (obtain ⟨qP, qQ, qD, qB⟩ := hSw); obtain ⟨_, _, _, _, _, _, _⟩ := blk3 qP; obtain ⟨_, _, _, _, _, _, _⟩ := blk3 qQ; obtain ⟨_, _, _, _, _, _, _⟩ := blk3 qD; go_simp; (try with_reducible rfl)))
        try simp only [Act.put, List.getElem_toArray, List.getElem_cons_succ, List.getElem_cons_zero, List.setIfInBounds_toArray, List.set_cons_zero, List.set_cons_succ]
        refine wpAnyH_take (i := 17) (oi := _) (v := ?_) rfl (by kernel_rfl) (by kernel_rfl) (by kernel_rfl) (fun _ _ _ h => h) (Or.inl ⟨by rfl, ?_⟩) (by assumption) ?_
        (rotate_left); (focus (intro wv hSw; (obtain ⟨qP, qQ, qD, qB⟩ := hSw); obtain ⟨_, _, _, _, _, _, _⟩ := blk3 qP; obtain ⟨_, _, _, _, _, _, _⟩ := blk3 qQ; obtain ⟨_, _, _, _, _, _, _⟩ := blk3 qD; go_simp; (try with_reducible rfl)))
        try simp only [Act.put, List.getElem_toArray, List.getElem_cons_succ, List.getElem_cons_zero, List.setIfInBounds_toArray, List.set_cons_zero, List.set_cons_succ]
        refine wpAnyH_done (by kernel_rfl) ?_ _
        go_wp2_with fail
        go_ret
        exact ⟨ret_bool rfl, hB_0ccc⟩
    · have HD : Hid (ssB x0 x1 x2 (2 * x0) (2 * x1) (2 * x2) = false) := by show _ = _; unfold ssB; (have e := (show spB x0 x1 x2 = false by rw [Bool.eq_false_iff]; intro h; have := spB_iff.1 h; omega); rw [e]; rfl)
      cases p
      all_goals
        have hP1 : (w1.alloc (.cells #[.int .i64 x0, .int .i64 x1, .int .i64 x2] 40)).heap[w1.heap.size]? = some (.cells #[.int .i64 x0, .int .i64 x1, .int .i64 x2] 40) := by have := blk_new w1 (.cells #[.int .i64 x0, .int .i64 x1, .int .i64 x2] 40); simpa using this
        have hB1 := hB0.alloc hB0.size (.cells #[.int .i64 x0, .int .i64 x1, .int .i64 x2] 40)
        have zBP := hB0.size
        have zPQ := blk_lt hP1
        have hQ2 : ((w1.alloc (.cells #[.int .i64 x0, .int .i64 x1, .int .i64 x2] 40)).alloc (.cells #[.int .i64 y0, .int .i64 y1, .int .i64 y2] 40)).heap[w1.heap.size + 1]? = some (.cells #[.int .i64 y0, .int .i64 y1, .int .i64 y2] 40) := by have := blk_new (w1.alloc (.cells #[.int .i64 x0, .int .i64 x1, .int .i64 x2] 40)) (.cells #[.int .i64 y0, .int .i64 y1, .int .i64 y2] 40); simpa using this
        have hP2 := blk_old hP1 (.cells #[.int .i64 y0, .int .i64 y1, .int .i64 y2] 40)
        have hB2 := hB1.alloc hB1.size (.cells #[.int .i64 y0, .int .i64 y1, .int .i64 y2] 40)
        have zBQ := hB1.size
        obtain ⟨cP2_0, cP2_1, cP2_2, fP2_0, fP2_1, fP2_2, zP2⟩ := blk3 hP2
        obtain ⟨cQ2_0, cQ2_1, cQ2_2, fQ2_0, fQ2_1, fQ2_2, zQ2⟩ := blk3 hQ2
        go_wp2_with fail
        refine (iSS_is _ HP.out).mono ?_; rintro e' w3 ⟨rfl, hw3⟩
        have hP3 := blk_next hP2 hw3
        have hQ3 := blk_next hQ2 hw3
        have hB3 := bel_next hB2 hw3
        obtain ⟨cP3_0, cP3_1, cP3_2, fP3_0, fP3_1, fP3_2, zP3⟩ := blk3 hP3
        obtain ⟨cQ3_0, cQ3_1, cQ3_2, fQ3_0, fQ3_1, fQ3_2, zQ3⟩ := blk3 hQ3
        go_wp2_with fail
        refine (sSS_is _ HP.out).mono ?_; rintro e' w4 ⟨rfl, hw4⟩
        have hP4 := blk_next hP3 hw4
        have hQ4 := blk_next hQ3 hw4
        have hB4 := bel_next hB3 hw4
        obtain ⟨cP4_0, cP4_1, cP4_2, fP4_0, fP4_1, fP4_2, zP4⟩ := blk3 hP4
        obtain ⟨cQ4_0, cQ4_1, cQ4_2, fQ4_0, fQ4_1, fQ4_2, zQ4⟩ := blk3 hQ4
        have zPD := blk_lt hP4
        have zQD := blk_lt hQ4
        have hD5 : (w4.alloc (.cells #[.int .i64 (2 * x0), .int .i64 (2 * x1), .int .i64 (2 * x2)] 40)).heap[w4.heap.size]? = some (.cells #[.int .i64 (2 * x0), .int .i64 (2 * x1), .int .i64 (2 * x2)] 40) := by have := blk_new w4 (.cells #[.int .i64 (2 * x0), .int .i64 (2 * x1), .int .i64 (2 * x2)] 40); simpa using this
        have hP5 := blk_old hP4 (.cells #[.int .i64 (2 * x0), .int .i64 (2 * x1), .int .i64 (2 * x2)] 40)
        have hQ5 := blk_old hQ4 (.cells #[.int .i64 (2 * x0), .int .i64 (2 * x1), .int .i64 (2 * x2)] 40)
        have hB5 := hB4.alloc hB4.size (.cells #[.int .i64 (2 * x0), .int .i64 (2 * x1), .int .i64 (2 * x2)] 40)
        have zBD := hB4.size
        go_wp2_with fail
        refine wp_region_held_drew (S := (fun w' => w'.heap[w1.heap.size]? = some (.cells #[.int .i64 x0, .int .i64 x1, .int .i64 x2] 40) ∧ w'.heap[w1.heap.size + 1]? = some (.cells #[.int .i64 y0, .int .i64 y1, .int .i64 y2] 40) ∧ w'.heap[w4.heap.size]? = some (.cells #[.int .i64 (2 * x0), .int .i64 (2 * x1), .int .i64 (2 * x2)] 40) ∧ Below w.heap.size w w')) (by kernel_rfl) ⟨hP5, hQ5, hD5, hB5.drew⟩ (fun hHeld => ?_)
        obtain ⟨hP_0, hQ_0, hD_0, hB_0⟩ := id hHeld
        refine wpAnyH_take (i := 0) (oi := _) (v := ?_) rfl (by kernel_rfl) (by kernel_rfl) (by kernel_rfl) (fun _ _ _ h => h) (Or.inl ⟨by rfl, ?_⟩) (by assumption) ?_
        (rotate_left); (focus (intro wv hSw; (obtain ⟨qP, qQ, qD, qB⟩ := hSw); obtain ⟨_, _, _, _, _, _, _⟩ := blk3 qP; obtain ⟨_, _, _, _, _, _, _⟩ := blk3 qQ; obtain ⟨_, _, _, _, _, _, _⟩ := blk3 qD; go_simp; (try with_reducible rfl)))
        try simp only [Act.put, List.getElem_toArray, List.getElem_cons_succ, List.getElem_cons_zero, List.setIfInBounds_toArray, List.set_cons_zero, List.set_cons_succ]
        refine wpAnyH_take (i := 1) (oi := _) (v := ?_) rfl (by kernel_rfl) (by kernel_rfl) (by kernel_rfl) (fun _ _ _ h => h) (Or.inl ⟨by rfl, ?_⟩) (by assumption) ?_
        (rotate_left); (focus (intro wv hSw; (obtain ⟨qP, qQ, qD, qB⟩ := hSw); obtain ⟨_, _, _, _, _, _, _⟩ := blk3 qP; obtain ⟨_, _, _, _, _, _, _⟩ := blk3 qQ; obtain ⟨_, _, _, _, _, _, _⟩ := blk3 qD; go_simp; (try with_reducible rfl)))
        try simp only [Act.put, List.getElem_toArray, List.getElem_cons_succ, List.getElem_cons_zero, List.setIfInBounds_toArray, List.set_cons_zero, List.set_cons_succ]
        refine wpAnyH_take (i := 3) (oi := _) (v := ?_) rfl (by kernel_rfl) (by kernel_rfl) (by kernel_rfl) (fun _ _ _ h => h) (Or.inl ⟨by rfl, ?_⟩) (by assumption) ?_
        (rotate_left); (focus (intro wv hSw; (obtain ⟨qP, qQ, qD, qB⟩ := hSw); obtain ⟨_, _, _, _, _, _, _⟩ := blk3 qP; obtain ⟨_, _, _, _, _, _, _⟩ := blk3 qQ; obtain ⟨_, _, _, _, _, _, _⟩ := blk3 qD; go_simp; (try with_reducible rfl)))
        try simp only [Act.put, List.getElem_toArray, List.getElem_cons_succ, List.getElem_cons_zero, List.setIfInBounds_toArray, List.set_cons_zero, List.set_cons_succ]
        refine wpAnyH_ready (rs := [2]) (by kernel_rfl) (by simp) ?_
        refine AllReadyH.cons (o := _) rfl (fun K hK => ?_) (AllReadyH.nil)
        go_simp
        (go_at_call 25; refine (iSS_is _ HQ.out).mono ?_; rintro e x0c ⟨rfl, hw_0c⟩)
        refine hK.out _ _ ⟨blk_next hP_0 hw_0c, blk_next hQ_0 hw_0c, blk_next hD_0 hw_0c, bel_next hB_0 hw_0c⟩ (fun hHeld => ?_)
        clear hK K
        try simp only [Act.put, List.getElem_toArray, List.getElem_cons_succ, List.getElem_cons_zero, List.setIfInBounds_toArray, List.set_cons_zero, List.set_cons_succ]
        obtain ⟨hP_0c, hQ_0c, hD_0c, hB_0c⟩ := id hHeld
        refine wpAnyH_take (i := 4) (oi := _) (v := ?_) rfl (by kernel_rfl) (by kernel_rfl) (by kernel_rfl) (fun _ _ _ h => h) (Or.inl ⟨by rfl, ?_⟩) (by assumption) ?_
        (rotate_left); (focus (intro wv hSw; (obtain ⟨qP, qQ, qD, qB⟩ := hSw); obtain ⟨_, _, _, _, _, _, _⟩ := blk3 qP; obtain ⟨_, _, _, _, _, _, _⟩ := blk3 qQ; obtain ⟨_, _, _, _, _, _, _⟩ := blk3 qD; go_simp; (try with_reducible rfl)))
        try simp only [Act.put, List.getElem_toArray, List.getElem_cons_succ, List.getElem_cons_zero, List.setIfInBounds_toArray, List.set_cons_zero, List.set_cons_succ]
        refine wpAnyH_take (i := 5) (oi := _) (v := ?_) rfl (by kernel_rfl) (by kernel_rfl) (by kernel_rfl) (fun _ _ _ h => h) (Or.inl ⟨by rfl, ?_⟩) (by assumption) ?_
        (rotate_left); (focus (intro wv hSw; (obtain ⟨qP, qQ, qD, qB⟩ := hSw); obtain ⟨_, _, _, _, _, _, _⟩ := blk3 qP; obtain ⟨_, _, _, _, _, _, _⟩ := blk3 qQ; obtain ⟨_, _, _, _, _, _, _⟩ := blk3 qD; go_simp; (try with_reducible rfl)))
        try simp only [Act.put, List.getElem_toArray, List.getElem_cons_succ, List.getElem_cons_zero, List.setIfInBounds_toArray, List.set_cons_zero, List.set_cons_succ]
        refine wpAnyH_take (i := 6) (oi := _) (v := ?_) rfl (by kernel_rfl) (by kernel_rfl) (by kernel_rfl) (fun _ _ _ h => h) (Or.inl ⟨by rfl, ?_⟩) (by assumption) ?_
        (rotate_left); (focus (intro wv hSw; (obtain ⟨qP, qQ, qD, qB⟩ := hSw); obtain ⟨_, _, _, _, _, _, _⟩ := blk3 qP; obtain ⟨_, _, _, _, _, _, _⟩ := blk3 qQ; obtain ⟨_, _, _, _, _, _, _⟩ := blk3 qD; go_simp; (try with_reducible rfl)))
        try simp only [Act.put, List.getElem_toArray, List.getElem_cons_succ, List.getElem_cons_zero, List.setIfInBounds_toArray, List.set_cons_zero, List.set_cons_succ]
        refine wpAnyH_take (i := 7) (oi := _) (v := ?_) rfl (by kernel_rfl) (by kernel_rfl) (by kernel_rfl) (fun _ _ _ h => h) (Or.inl ⟨by rfl, ?_⟩) (by assumption) ?_
        (rotate_left); (focus (intro wv hSw; (obtain ⟨qP, qQ, qD, qB⟩ := hSw); obtain ⟨_, _, _, _, _, _, _⟩ := blk3 qP; obtain ⟨_, _, _, _, _, _, _⟩ := blk3 qQ; obtain ⟨_, _, _, _, _, _, _⟩ := blk3 qD; go_simp; (try with_reducible rfl)))
        try simp only [Act.put, List.getElem_toArray, List.getElem_cons_succ, List.getElem_cons_zero, List.setIfInBounds_toArray, List.set_cons_zero, List.set_cons_succ]
        refine wpAnyH_take (i := 9) (oi := _) (v := ?_) rfl (by kernel_rfl) (by kernel_rfl) (by kernel_rfl) (fun _ _ _ h => h) (Or.inl ⟨by rfl, ?_⟩) (by assumption) ?_
        (rotate_left); (focus (intro wv hSw; (obtain ⟨qP, qQ, qD, qB⟩ := hSw); obtain ⟨_, _, _, _, _, _, _⟩ := blk3 qP; obtain ⟨_, _, _, _, _, _, _⟩ := blk3 qQ; obtain ⟨_, _, _, _, _, _, _⟩ := blk3 qD; go_simp; (try with_reducible rfl)))
        try simp only [Act.put, List.getElem_toArray, List.getElem_cons_succ, List.getElem_cons_zero, List.setIfInBounds_toArray, List.set_cons_zero, List.set_cons_succ]
        refine wpAnyH_take (i := 10) (oi := _) (v := ?_) rfl (by kernel_rfl) (by kernel_rfl) (by kernel_rfl) (fun _ _ _ h => h) (Or.inl ⟨by rfl, ?_⟩) (by assumption) ?_
        (rotate_left); (focus (intro wv hSw; (obtain ⟨qP, qQ, qD, qB⟩ := hSw); obtain ⟨_, _, _, _, _, _, _⟩ := blk3 qP; obtain ⟨_, _, _, _, _, _, _⟩ := blk3 qQ; obtain ⟨_, _, _, _, _, _, _⟩ := blk3 qD; go_simp; (try with_reducible rfl)))
        try simp only [Act.put, List.getElem_toArray, List.getElem_cons_succ, List.getElem_cons_zero, List.setIfInBounds_toArray, List.set_cons_zero, List.set_cons_succ]
        refine wpAnyH_take (i := 11) (oi := _) (v := ?_) rfl (by kernel_rfl) (by kernel_rfl) (by kernel_rfl) (fun _ _ _ h => h) (Or.inl ⟨by rfl, ?_⟩) (by assumption) ?_
        (rotate_left); (focus (intro wv hSw; (obtain ⟨qP, qQ, qD, qB⟩ := hSw); obtain ⟨_, _, _, _, _, _, _⟩ := blk3 qP; obtain ⟨_, _, _, _, _, _, _⟩ := blk3 qQ; obtain ⟨_, _, _, _, _, _, _⟩ := blk3 qD; go_simp; (try with_reducible rfl)))
        try simp only [Act.put, List.getElem_toArray, List.getElem_cons_succ, List.getElem_cons_zero, List.setIfInBounds_toArray, List.set_cons_zero, List.set_cons_succ]
        refine wpAnyH_ready (rs := [8]) (by kernel_rfl) (by simp) ?_
        refine AllReadyH.cons (o := _) rfl (fun K hK => ?_) (AllReadyH.nil)
        go_simp
        (go_at_call 25; refine (iSS_is _ HD.out).mono ?_; rintro e x0cc ⟨rfl, hw_0cc⟩)
        refine hK.out _ _ ⟨blk_next hP_0c hw_0cc, blk_next hQ_0c hw_0cc, blk_next hD_0c hw_0cc, bel_next hB_0c hw_0cc⟩ (fun hHeld => ?_)
        clear hK K
        try simp only [Act.put, List.getElem_toArray, List.getElem_cons_succ, List.getElem_cons_zero, List.setIfInBounds_toArray, List.set_cons_zero, List.set_cons_succ]
        obtain ⟨hP_0cc, hQ_0cc, hD_0cc, hB_0cc⟩ := id hHeld
        refine wpAnyH_take (i := 12) (oi := _) (v := ?_) rfl (by kernel_rfl) (by kernel_rfl) (by kernel_rfl) (fun _ _ _ h => h) (Or.inl ⟨by rfl, ?_⟩) (by assumption) ?_
        (rotate_left); (focus (intro wv hSw; (obtain ⟨qP, qQ, qD, qB⟩ := hSw); obtain ⟨_, _, _, _, _, _, _⟩ := blk3 qP; obtain ⟨_, _, _, _, _, _, _⟩ := blk3 qQ; obtain ⟨_, _, _, _, _, _, _⟩ := blk3 qD; go_simp; (try with_reducible rfl)))
        try simp only [Act.put, List.getElem_toArray, List.getElem_cons_succ, List.getElem_cons_zero, List.setIfInBounds_toArray, List.set_cons_zero, List.set_cons_succ]
        refine wpAnyH_take (i := 13) (oi := _) (v := ?_) rfl (by kernel_rfl) (by kernel_rfl) (by kernel_rfl) (fun _ _ _ h => h) (Or.inl ⟨by rfl, ?_⟩) (by assumption) ?_
        (rotate_left); (focus (intro wv hSw; (obtain ⟨qP, qQ, qD, qB⟩ := hSw); obtain ⟨_, _, _, _, _, _, _⟩ := blk3 qP; obtain ⟨_, _, _, _, _, _, _⟩ := blk3 qQ; obtain ⟨_, _, _, _, _, _, _⟩ := blk3 qD; go_simp; (try with_reducible rfl)))
        try simp only [Act.put, List.getElem_toArray, List.getElem_cons_succ, List.getElem_cons_zero, List.setIfInBounds_toArray, List.set_cons_zero, List.set_cons_succ]
        refine wpAnyH_take (i := 14) (oi := _) (v := ?_) rfl (by kernel_rfl) (by kernel_rfl) (by kernel_rfl) (fun _ _ _ h => h) (Or.inl ⟨by rfl, ?_⟩) (by assumption) ?_
        (rotate_left); (focus (intro wv hSw; (obtain ⟨qP, qQ, qD, qB⟩ := hSw); obtain ⟨_, _, _, _, _, _, _⟩ := blk3 qP; obtain ⟨_, _, _, _, _, _, _⟩ := blk3 qQ; obtain ⟨_, _, _, _, _, _, _⟩ := blk3 qD; go_simp; (try with_reducible rfl)))
        try simp only [Act.put, List.getElem_toArray, List.getElem_cons_succ, List.getElem_cons_zero, List.setIfInBounds_toArray, List.set_cons_zero, List.set_cons_succ]
        refine wpAnyH_ready (rs := [15]) (by kernel_rfl) (by simp) ?_
        refine AllReadyH.cons (o := _) rfl (fun K hK => ?_) (AllReadyH.nil)
        go_simp
        (go_at_call 15; refine (alive_bel _).mono ?_; rintro e x0ccc ⟨rfl, hw_0ccc⟩)
        refine hK.out _ _ ⟨blk_next hP_0cc hw_0ccc, blk_next hQ_0cc hw_0ccc, blk_next hD_0cc hw_0ccc, bel_next hB_0cc hw_0ccc⟩ (fun hHeld => ?_)
        clear hK K
        try simp only [Act.put, List.getElem_toArray, List.getElem_cons_succ, List.getElem_cons_zero, List.setIfInBounds_toArray, List.set_cons_zero, List.set_cons_succ]
        obtain ⟨hP_0ccc, hQ_0ccc, hD_0ccc, hB_0ccc⟩ := id hHeld
        refine wpAnyH_take (i := 16) (oi := _) (v := ?_) rfl (by kernel_rfl) (by kernel_rfl) (by kernel_rfl) (fun _ _ _ h => h) (Or.inl ⟨by rfl, ?_⟩) (by assumption) ?_
        (rotate_left); (focus (intro wv hSw; (obtain ⟨qP, qQ, qD, qB⟩ := hSw); obtain ⟨_, _, _, _, _, _, _⟩ := blk3 qP; obtain ⟨_, _, _, _, _, _, _⟩ := blk3 qQ; obtain ⟨_, _, _, _, _, _, _⟩ := blk3 qD; go_simp; (try with_reducible rfl)))
        try simp only [Act.put, List.getElem_toArray, List.getElem_cons_succ, List.getElem_cons_zero, List.setIfInBounds_toArray, List.set_cons_zero, List.set_cons_succ]
        refine wpAnyH_take (i := 17) (oi := _) (v := ?_) rfl (by kernel_rfl) (by kernel_rfl) (by kernel_rfl) (fun _ _ _ h => h) (Or.inl ⟨by rfl, ?_⟩) (by assumption) ?_
        (rotate_left); (focus (intro wv hSw; (obtain ⟨qP, qQ, qD, qB⟩ := hSw); obtain ⟨_, _, _, _, _, _, _⟩ := blk3 qP; obtain ⟨_, _, _, _, _, _, _⟩ := blk3 qQ; obtain ⟨_, _, _, _, _, _, _⟩ := blk3 qD; go_simp; (try with_reducible rfl)))
        try simp only [Act.put, List.getElem_toArray, List.getElem_cons_succ, List.getElem_cons_zero, List.setIfInBounds_toArray, List.set_cons_zero, List.set_cons_succ]
        refine wpAnyH_done (by kernel_rfl) ?_ _
        go_wp2_with fail
        go_ret
        exact ⟨ret_bool (by simpa using hd), hB_0ccc⟩

set_option maxRecDepth 100000 in
theorem lifted (os : Os) (started : os.Started) (H : Type) (enc : TypeId × Value → H) :
    ReturnsInHanded {} Try.checked os 7 .any (Rows.fnSameSpotSpec.pre6 enc Try.prog Try.f7 Rows.fnSameSpotRow.domain false) (Rows.fnSameSpotSpec.post enc Try.prog Try.f7 false true false false) := by
  refine returnsInHanded_of_change (C := Try.checked) own started (by kernel_rfl) Try.func7
    (ChangeSpec.witness6 (enc := enc) (C := Try.checked) false ⟨#[], #[.slice none 0 0], []⟩ 8 (by kernel_rfl) (by kernel_rfl) (by kernel_rfl) (by kernel_rfl)) ?_
  intro W base args ds gs before hval0 hW hcnd _
  have hval : ∀ (j : Nat) t v, Try.f7.params[j]? = some t → args[j]? = some v → Value.okWide Try.prog W .any base t v := hval0
  have hW' := hW
  obtain ⟨p, q, hA0, hV, rfl, hfz, hnd⟩ := hW
  have hA : DataW.TrodAll enc Try.prog W 0 (fun _ => true) true Try.f7.params.toList args.toList ds p := hA0
  rw [Try.params7] at hA hval
  obtain ⟨v0, vs0, d0, ds0, p0, q0, hargs, rfl, rfl, h0, r0⟩ := trodAll_cons hA
  obtain ⟨rfl, rfl, rfl⟩ := trodAll_nil r0
  obtain rfl : args = #[v0] := by cases args; simp_all
  obtain ⟨rfl, rfl⟩ := trodVars_none hV
  have k0 := h0
  have lt0 : ∀ x ∈ p0, x.block < W.heap.size := by obtain ⟨m, hm⟩ := k0; exact DataW.trod_lt m _ _ _ hm
  obtain ⟨a0, len0, cap0, rfl⟩ := okWide_slice Try.underlying22 (hval 0 22 v0 rfl rfl)
  have w0 : CodeOk W a0 len0 cap0 := by
    obtain ⟨fuel, hf⟩ := h0
    rcases open_ints Try.underlying22 Try.underlying5 (by kernel_rfl) hf with ⟨hcs, _⟩ | ⟨x, l, c, zs, hcs, _, hl, hm, hz, _, hcell, hwz⟩
    · simp [Value.cells] at hcs
      obtain ⟨rfl, rfl, rfl⟩ := hcs
      exact code_nil W
    · simp [Value.cells] at hcs
      obtain ⟨rfl, rfl, rfl⟩ := hcs
      exact code_ok hl hm (by simp at hz; omega) hcell hwz
  clear hA0 hval0
  refine (walk W a0 len0 cap0 w0).mono fun e W' ⟨he, bel⟩ => ?_
  subst he
  exact ⟨_, rfl, _, _, _, [], _, [], hW', trodAll_mk1 (shut_bool Try.underlying4 _), (trodAll_cons_mk (Below.trod laidOut (by kernel_rfl) (of_decide_eq_true (by kernel_rfl)) k0 bel lt0) trodAll_mk0), rfl, bel.frame _, fun h => by cases h⟩

theorem over : Rows.fnSameSpotRow.holds Try.pinned (OpenSpec.ofChange Rows.fnSameSpotSpec) :=
  OpenClaim.holds_of_wide 7 Try.f7 rfl rfl rfl rfl rfl rfl rfl ⟨rfl, rfl, rfl, rfl, rfl⟩ rfl rfl rfl rfl rfl (by kernel_rfl) Try.func7 (by kernel_rfl)
    (of_decide_eq_true (by kernel_rfl)) (by unfold Func.isWrapper; first | (rw [if_pos (by decide +kernel)]; kernel_rfl) | (rw [if_neg (by decide +kernel)]; exact ⟨rfl, rfl⟩))
    (fun os started H enc _ => lifted os started H enc)

/-- The statement. -/
theorem proved : Rows.FnSameSpotSaid :=
  over
#print axioms proved
end Go.Proofs.Ytlahjgjjebkpjaa.fnSameSpot
