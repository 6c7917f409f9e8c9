/- Contracts of chapter 2: the order of ways by the model, the same direction by both. -/
import Derived.Test.YtibpaojhjgpdaaaWb
namespace Go.Proofs.Ytibpaojhjgpdaaa
open Go.ChangeShapes Go.WideShapes Go.ChangeAt Go.RowKit
set_option linter.unusedSimpArgs false
set_option linter.unusedVariables false

set_option maxHeartbeats 4000000 in
theorem sRL_any (a b c d : Int) (w : World) :
    Calls Try.prog 46 #[.agg #[.int .i64 a, .int .i64 b], .agg #[.int .i64 c, .int .i64 d]] w fun e w' => e = .returned (.bool (rlB a b c d)) ∧ Below w.heap.size w w' := by
  cases h : wvB a b
  · go_enter Try.func46, Try.ntmps46
    go_wp2_with fail
    refine (sWV_any _ _ _).mono ?_; rintro e w1 ⟨rfl, hw1⟩
    obtain ⟨hP1, hQ1, hB1⟩ := ownb2 hw1
    go_wp2
    go_ret
    exact ⟨ret_bool (by unfold rlB goB; simp [h]), hB1⟩
  · cases k : wvB c d
    · go_enter Try.func46, Try.ntmps46
      go_wp2_with fail
      refine (sWV_any _ _ _).mono ?_; rintro e w1 ⟨rfl, hw1⟩
      obtain ⟨hP1, hQ1, hB1⟩ := ownb2 hw1
      obtain ⟨cP1_0, cP1_1, fP1_0, fP1_1, zP1⟩ := blk2 hP1
      obtain ⟨cQ1_0, cQ1_1, fQ1_0, fQ1_1, zQ1⟩ := blk2 hQ1
      go_wp2_with fail
      refine (sWV_any _ _ _).mono ?_; rintro e w2 ⟨rfl, hw2⟩
      have hP2 := blk_next hP1 hw2
      have hQ2 := blk_next hQ1 hw2
      have hB2 := bel_next hB1 hw2
      go_wp2
      go_ret
      exact ⟨ret_bool (by unfold rlB goB; simp [h, k]), hB2⟩
    · by_cases h0 : halfI a b < 0
      · have n0 := half_nil.1 (show halfI a b = -1 by have := half_cases a b; omega)
        have N0 := Lib.hid n0
        clear n0
        go_enter Try.func46, Try.ntmps46
        go_wp2_with fail
        refine (sWV_any _ _ _).mono ?_; rintro e w1 ⟨rfl, hw1⟩
        obtain ⟨hP1, hQ1, hB1⟩ := ownb2 hw1
        obtain ⟨cP1_0, cP1_1, fP1_0, fP1_1, zP1⟩ := blk2 hP1
        obtain ⟨cQ1_0, cQ1_1, fQ1_0, fQ1_1, zQ1⟩ := blk2 hQ1
        go_wp2_with fail
        refine (sWV_any _ _ _).mono ?_; rintro e w2 ⟨rfl, hw2⟩
        have hP2 := blk_next hP1 hw2
        have hQ2 := blk_next hQ1 hw2
        have hB2 := bel_next hB1 hw2
        obtain ⟨cP2_0, cP2_1, fP2_0, fP2_1, zP2⟩ := blk2 hP2
        obtain ⟨cQ2_0, cQ2_1, fQ2_0, fQ2_1, zQ2⟩ := blk2 hQ2
        go_wp2_with fail
        refine (sHalf_any _ _ _).mono ?_; rintro e w3 ⟨rfl, hw3⟩
        have hP3 := blk_next hP2 hw3
        have hQ3 := blk_next hQ2 hw3
        have hB3 := bel_next hB2 hw3
        go_wp2
        go_ret
        exact ⟨ret_bool (by unfold rlB goB; simp [h, k, N0.out]), hB3⟩
      · by_cases k0 : halfI c d < 0
        · have n0 := half_nil.1 (show halfI c d = -1 by have := half_cases c d; omega)
          have N0 := Lib.hid n0
          clear n0
          go_enter Try.func46, Try.ntmps46
          go_wp2_with fail
          refine (sWV_any _ _ _).mono ?_; rintro e w1 ⟨rfl, hw1⟩
          obtain ⟨hP1, hQ1, hB1⟩ := ownb2 hw1
          obtain ⟨cP1_0, cP1_1, fP1_0, fP1_1, zP1⟩ := blk2 hP1
          obtain ⟨cQ1_0, cQ1_1, fQ1_0, fQ1_1, zQ1⟩ := blk2 hQ1
          go_wp2_with fail
          refine (sWV_any _ _ _).mono ?_; rintro e w2 ⟨rfl, hw2⟩
          have hP2 := blk_next hP1 hw2
          have hQ2 := blk_next hQ1 hw2
          have hB2 := bel_next hB1 hw2
          obtain ⟨cP2_0, cP2_1, fP2_0, fP2_1, zP2⟩ := blk2 hP2
          obtain ⟨cQ2_0, cQ2_1, fQ2_0, fQ2_1, zQ2⟩ := blk2 hQ2
          go_wp2_with fail
          refine (sHalf_any _ _ _).mono ?_; rintro e w3 ⟨rfl, hw3⟩
          have hP3 := blk_next hP2 hw3
          have hQ3 := blk_next hQ2 hw3
          have hB3 := bel_next hB2 hw3
          obtain ⟨cP3_0, cP3_1, fP3_0, fP3_1, zP3⟩ := blk2 hP3
          obtain ⟨cQ3_0, cQ3_1, fQ3_0, fQ3_1, zQ3⟩ := blk2 hQ3
          go_wp2_with fail
          refine (sHalf_any _ _ _).mono ?_; rintro e w4 ⟨rfl, hw4⟩
          have hP4 := blk_next hP3 hw4
          have hQ4 := blk_next hQ3 hw4
          have hB4 := bel_next hB3 hw4
          go_wp2
          go_ret
          exact ⟨ret_bool (by unfold rlB goB; simp [h, k, N0.out]), hB4⟩
        · have gh : goB a b = true := goB_iff.2 ⟨wvB_iff.1 h, fun e => h0 (by rw [half_nil.2 e]; omega)⟩
          have gk : goB c d = true := goB_iff.2 ⟨wvB_iff.1 k, fun e => k0 (by rw [half_nil.2 e]; omega)⟩
          have HX := Lib.hid (go_cross gh gk)
          have HR : Hid (rlB a b c d = decide (Bef a b c d)) := by show rlB a b c d = _; unfold rlB befB; rw [gh, gk]; rfl
          clear gh gk
          rcases Int.lt_trichotomy (halfI a b) (halfI c d) with e1 | e1 | e1
          · have d1 : decide (halfI a b < halfI c d) = true := by simpa using e1
            have E1 := Lib.hid e1
            clear e1
            go_enter Try.func46, Try.ntmps46
            go_wp2_with fail
            refine (sWV_any _ _ _).mono ?_; rintro e w1 ⟨rfl, hw1⟩
            obtain ⟨hP1, hQ1, hB1⟩ := ownb2 hw1
            obtain ⟨cP1_0, cP1_1, fP1_0, fP1_1, zP1⟩ := blk2 hP1
            obtain ⟨cQ1_0, cQ1_1, fQ1_0, fQ1_1, zQ1⟩ := blk2 hQ1
            go_wp2_with fail
            refine (sWV_any _ _ _).mono ?_; rintro e w2 ⟨rfl, hw2⟩
            have hP2 := blk_next hP1 hw2
            have hQ2 := blk_next hQ1 hw2
            have hB2 := bel_next hB1 hw2
            obtain ⟨cP2_0, cP2_1, fP2_0, fP2_1, zP2⟩ := blk2 hP2
            obtain ⟨cQ2_0, cQ2_1, fQ2_0, fQ2_1, zQ2⟩ := blk2 hQ2
            go_wp2_with fail
            refine (sHalf_any _ _ _).mono ?_; rintro e w3 ⟨rfl, hw3⟩
            have hP3 := blk_next hP2 hw3
            have hQ3 := blk_next hQ2 hw3
            have hB3 := bel_next hB2 hw3
            obtain ⟨cP3_0, cP3_1, fP3_0, fP3_1, zP3⟩ := blk2 hP3
            obtain ⟨cQ3_0, cQ3_1, fQ3_0, fQ3_1, zQ3⟩ := blk2 hQ3
            go_wp2_with fail
            refine (sHalf_any _ _ _).mono ?_; rintro e w4 ⟨rfl, hw4⟩
            have hP4 := blk_next hP3 hw4
            have hQ4 := blk_next hQ3 hw4
            have hB4 := bel_next hB3 hw4
            obtain ⟨cP4_0, cP4_1, fP4_0, fP4_1, zP4⟩ := blk2 hP4
            obtain ⟨cQ4_0, cQ4_1, fQ4_0, fQ4_1, zQ4⟩ := blk2 hQ4
            go_wp2_with fail
            refine wp_region_held_drew (S := (fun w' => w'.cell? ⟨w.heap.size, 0, none⟩ = some (.int .i64 a) ∧ w'.cell? ⟨w.heap.size, 1, none⟩ = some (.int .i64 b) ∧ w'.cell? ⟨w.heap.size + 1, 0, none⟩ = some (.int .i64 c) ∧ w'.cell? ⟨w.heap.size + 1, 1, none⟩ = some (.int .i64 d) ∧ w.heap.size + 1 < w'.heap.size ∧ Below w.heap.size w w')) (by kernel_rfl) (⟨cP4_0, cP4_1, cQ4_0, cQ4_1, zQ4, hB4.drew⟩) (fun hHeld => ?_)
            obtain ⟨p0_0, p1_0, q0_0, q1_0, z_0, B_0⟩ := id hHeld
            refine wpAnyH_take (i := 0) (oi := _) (v := ?_) rfl (by kernel_rfl) (by kernel_rfl) (by kernel_rfl) (fun _ _ _ h => h) (Or.inl ⟨by rfl, ?_⟩) (by assumption) ?_
            (rotate_left); (focus (intro wv hSw; (try dsimp only at hSw); go_simp; (try with_reducible rfl)))
            try simp only [Act.put, List.getElem_toArray, List.getElem_cons_succ, List.getElem_cons_zero, List.setIfInBounds_toArray, List.set_cons_zero, List.set_cons_succ]
            refine wpAnyH_take (i := 2) (oi := _) (v := ?_) rfl (by kernel_rfl) (by kernel_rfl) (by kernel_rfl) (fun _ _ _ h => h) (Or.inl ⟨by rfl, ?_⟩) (by assumption) ?_
            (rotate_left); (focus (intro wv hSw; (try dsimp only at hSw); go_simp; (try with_reducible rfl)))
            try simp only [Act.put, List.getElem_toArray, List.getElem_cons_succ, List.getElem_cons_zero, List.setIfInBounds_toArray, List.set_cons_zero, List.set_cons_succ]
            refine wpAnyH_ready (rs := [1]) (by kernel_rfl) (by simp) ?_
            refine AllReadyH.cons (o := _) rfl (fun K hK => ?_) AllReadyH.nil
            go_simp
            (go_at_call 48; refine (sHalf_any _ _ _).mono ?_; rintro e x1 ⟨rfl, hx1⟩)
            refine hK.out _ _ ?_ (fun hHeld => ?_)
            · exact keep22 p0_0 p1_0 q0_0 q1_0 z_0 B_0 hx1
            clear hK K
            try simp only [Act.put, List.getElem_toArray, List.getElem_cons_succ, List.getElem_cons_zero, List.setIfInBounds_toArray, List.set_cons_zero, List.set_cons_succ]
            obtain ⟨p0_1, p1_1, q0_1, q1_1, z_1, B_1⟩ := id hHeld
            refine wpAnyH_ready (rs := [3]) (by kernel_rfl) (by simp) ?_
            refine AllReadyH.cons (o := _) rfl (fun K hK => ?_) AllReadyH.nil
            go_simp
            (go_at_call 48; refine (sHalf_any _ _ _).mono ?_; rintro e x2 ⟨rfl, hx2⟩)
            refine hK.out _ _ ?_ (fun hHeld => ?_)
            · exact keep22 p0_1 p1_1 q0_1 q1_1 z_1 B_1 hx2
            clear hK K
            try simp only [Act.put, List.getElem_toArray, List.getElem_cons_succ, List.getElem_cons_zero, List.setIfInBounds_toArray, List.set_cons_zero, List.set_cons_succ]
            obtain ⟨p0_2, p1_2, q0_2, q1_2, z_2, B_2⟩ := id hHeld
            refine wpAnyH_take (i := 4) (oi := _) (v := ?_) rfl (by kernel_rfl) (by kernel_rfl) (by kernel_rfl) (fun _ _ _ h => h) (Or.inl ⟨by rfl, ?_⟩) (by assumption) ?_
            (rotate_left); (focus (intro wv hSw; (try dsimp only at hSw); go_simp; (try with_reducible rfl)))
            try simp only [Act.put, List.getElem_toArray, List.getElem_cons_succ, List.getElem_cons_zero, List.setIfInBounds_toArray, List.set_cons_zero, List.set_cons_succ]
            refine wpAnyH_take (i := 5) (oi := _) (v := ?_) rfl (by kernel_rfl) (by kernel_rfl) (by kernel_rfl) (fun _ _ _ h => h) (Or.inl ⟨by rfl, ?_⟩) (by assumption) ?_
            (rotate_left); (focus (intro wv hSw; (try dsimp only at hSw); go_simp; (try with_reducible rfl)))
            try simp only [Act.put, List.getElem_toArray, List.getElem_cons_succ, List.getElem_cons_zero, List.setIfInBounds_toArray, List.set_cons_zero, List.set_cons_succ]
            refine wpAnyH_take (i := 6) (oi := _) (v := undef) rfl (by kernel_rfl) (by kernel_rfl) (by kernel_rfl) (fun _ _ _ h => h) (Or.inr ⟨by kernel_rfl, rfl⟩) (by assumption) ?_
            try simp only [Act.put, List.getElem_toArray, List.getElem_cons_succ, List.getElem_cons_zero, List.setIfInBounds_toArray, List.set_cons_zero, List.set_cons_succ]
            refine wpAnyH_take (i := 8) (oi := _) (v := undef) rfl (by kernel_rfl) (by kernel_rfl) (by kernel_rfl) (fun _ _ _ h => h) (Or.inr ⟨by kernel_rfl, rfl⟩) (by assumption) ?_
            try simp only [Act.put, List.getElem_toArray, List.getElem_cons_succ, List.getElem_cons_zero, List.setIfInBounds_toArray, List.set_cons_zero, List.set_cons_succ]
            refine wpAnyH_take (i := 7) (oi := _) (v := undef) rfl (by kernel_rfl) (by kernel_rfl) (by kernel_rfl) (fun _ _ _ h => h) (Or.inr ⟨by kernel_rfl, rfl⟩) (by assumption) ?_
            try simp only [Act.put, List.getElem_toArray, List.getElem_cons_succ, List.getElem_cons_zero, List.setIfInBounds_toArray, List.set_cons_zero, List.set_cons_succ]
            refine wpAnyH_take (i := 9) (oi := _) (v := undef) rfl (by kernel_rfl) (by kernel_rfl) (by kernel_rfl) (fun _ _ _ h => h) (Or.inr ⟨by kernel_rfl, rfl⟩) (by assumption) ?_
            try simp only [Act.put, List.getElem_toArray, List.getElem_cons_succ, List.getElem_cons_zero, List.setIfInBounds_toArray, List.set_cons_zero, List.set_cons_succ]
            refine wpAnyH_take (i := 10) (oi := _) (v := undef) rfl (by kernel_rfl) (by kernel_rfl) (by kernel_rfl) (fun _ _ _ h => h) (Or.inr ⟨by kernel_rfl, rfl⟩) (by assumption) ?_
            try simp only [Act.put, List.getElem_toArray, List.getElem_cons_succ, List.getElem_cons_zero, List.setIfInBounds_toArray, List.set_cons_zero, List.set_cons_succ]
            refine wpAnyH_take (i := 11) (oi := _) (v := undef) rfl (by kernel_rfl) (by kernel_rfl) (by kernel_rfl) (fun _ _ _ h => h) (Or.inr ⟨by kernel_rfl, rfl⟩) (by assumption) ?_
            try simp only [Act.put, List.getElem_toArray, List.getElem_cons_succ, List.getElem_cons_zero, List.setIfInBounds_toArray, List.set_cons_zero, List.set_cons_succ]
            refine wpAnyH_take (i := 12) (oi := _) (v := undef) rfl (by kernel_rfl) (by kernel_rfl) (by kernel_rfl) (fun _ _ _ h => h) (Or.inr ⟨by kernel_rfl, rfl⟩) (by assumption) ?_
            try simp only [Act.put, List.getElem_toArray, List.getElem_cons_succ, List.getElem_cons_zero, List.setIfInBounds_toArray, List.set_cons_zero, List.set_cons_succ]
            refine wpAnyH_take (i := 13) (oi := _) (v := undef) rfl (by kernel_rfl) (by kernel_rfl) (by kernel_rfl) (fun _ _ _ h => h) (Or.inr ⟨by kernel_rfl, rfl⟩) (by assumption) ?_
            try simp only [Act.put, List.getElem_toArray, List.getElem_cons_succ, List.getElem_cons_zero, List.setIfInBounds_toArray, List.set_cons_zero, List.set_cons_succ]
            refine wpAnyH_take (i := 14) (oi := _) (v := undef) rfl (by kernel_rfl) (by kernel_rfl) (by kernel_rfl) (fun _ _ _ h => h) (Or.inr ⟨by kernel_rfl, rfl⟩) (by assumption) ?_
            try simp only [Act.put, List.getElem_toArray, List.getElem_cons_succ, List.getElem_cons_zero, List.setIfInBounds_toArray, List.set_cons_zero, List.set_cons_succ]
            refine wpAnyH_take (i := 15) (oi := _) (v := undef) rfl (by kernel_rfl) (by kernel_rfl) (by kernel_rfl) (fun _ _ _ h => h) (Or.inr ⟨by kernel_rfl, rfl⟩) (by assumption) ?_
            try simp only [Act.put, List.getElem_toArray, List.getElem_cons_succ, List.getElem_cons_zero, List.setIfInBounds_toArray, List.set_cons_zero, List.set_cons_succ]
            refine wpAnyH_take (i := 16) (oi := _) (v := undef) rfl (by kernel_rfl) (by kernel_rfl) (by kernel_rfl) (fun _ _ _ h => h) (Or.inr ⟨by kernel_rfl, rfl⟩) (by assumption) ?_
            try simp only [Act.put, List.getElem_toArray, List.getElem_cons_succ, List.getElem_cons_zero, List.setIfInBounds_toArray, List.set_cons_zero, List.set_cons_succ]
            refine wpAnyH_take (i := 17) (oi := _) (v := ?_) rfl (by kernel_rfl) (by kernel_rfl) (by kernel_rfl) (fun _ _ _ h => h) (Or.inl ⟨by rfl, ?_⟩) (by assumption) ?_
            (rotate_left); (focus (intro wv hSw; (try dsimp only at hSw); go_simp; (try with_reducible rfl)))
            try simp only [Act.put, List.getElem_toArray, List.getElem_cons_succ, List.getElem_cons_zero, List.setIfInBounds_toArray, List.set_cons_zero, List.set_cons_succ]
            refine wpAnyH_take (i := 18) (oi := _) (v := ?_) rfl (by kernel_rfl) (by kernel_rfl) (by kernel_rfl) (fun _ _ _ h => h) (Or.inl ⟨by rfl, ?_⟩) (by assumption) ?_
            (rotate_left); (focus (intro wv hSw; (try dsimp only at hSw); go_simp; (try with_reducible rfl)))
            try simp only [Act.put, List.getElem_toArray, List.getElem_cons_succ, List.getElem_cons_zero, List.setIfInBounds_toArray, List.set_cons_zero, List.set_cons_succ]
            refine wpAnyH_done (by kernel_rfl) ?_ _
            go_wp2_with fail
            go_ret
            exact ⟨ret_bool (by rw [HR.out]; unfold Bef; simp [E1.out]), B_2⟩
          · have d1 : decide (halfI a b < halfI c d) = false := by simp; omega
            have d2 : (halfI a b == halfI c d) = true := by simpa using e1
            have E1 := Lib.hid e1
            clear e1
            go_enter Try.func46, Try.ntmps46
            go_wp2_with fail
            refine (sWV_any _ _ _).mono ?_; rintro e w1 ⟨rfl, hw1⟩
            obtain ⟨hP1, hQ1, hB1⟩ := ownb2 hw1
            obtain ⟨cP1_0, cP1_1, fP1_0, fP1_1, zP1⟩ := blk2 hP1
            obtain ⟨cQ1_0, cQ1_1, fQ1_0, fQ1_1, zQ1⟩ := blk2 hQ1
            go_wp2_with fail
            refine (sWV_any _ _ _).mono ?_; rintro e w2 ⟨rfl, hw2⟩
            have hP2 := blk_next hP1 hw2
            have hQ2 := blk_next hQ1 hw2
            have hB2 := bel_next hB1 hw2
            obtain ⟨cP2_0, cP2_1, fP2_0, fP2_1, zP2⟩ := blk2 hP2
            obtain ⟨cQ2_0, cQ2_1, fQ2_0, fQ2_1, zQ2⟩ := blk2 hQ2
            go_wp2_with fail
            refine (sHalf_any _ _ _).mono ?_; rintro e w3 ⟨rfl, hw3⟩
            have hP3 := blk_next hP2 hw3
            have hQ3 := blk_next hQ2 hw3
            have hB3 := bel_next hB2 hw3
            obtain ⟨cP3_0, cP3_1, fP3_0, fP3_1, zP3⟩ := blk2 hP3
            obtain ⟨cQ3_0, cQ3_1, fQ3_0, fQ3_1, zQ3⟩ := blk2 hQ3
            go_wp2_with fail
            refine (sHalf_any _ _ _).mono ?_; rintro e w4 ⟨rfl, hw4⟩
            have hP4 := blk_next hP3 hw4
            have hQ4 := blk_next hQ3 hw4
            have hB4 := bel_next hB3 hw4
            obtain ⟨cP4_0, cP4_1, fP4_0, fP4_1, zP4⟩ := blk2 hP4
            obtain ⟨cQ4_0, cQ4_1, fQ4_0, fQ4_1, zQ4⟩ := blk2 hQ4
            go_wp2_with fail
            have hu : undef = Value.tuple #[] := rfl
            first | go_region_held3 (fun w' => w'.cell? ⟨w.heap.size, 0, none⟩ = some (.int .i64 a) ∧ w'.cell? ⟨w.heap.size, 1, none⟩ = some (.int .i64 b) ∧ w'.cell? ⟨w.heap.size + 1, 0, none⟩ = some (.int .i64 c) ∧ w'.cell? ⟨w.heap.size + 1, 1, none⟩ = some (.int .i64 d) ∧ w.heap.size + 1 < w'.heap.size ∧ Below w.heap.size w w')
              (first
                | assumption
                | exact ⟨cP4_0, cP4_1, cQ4_0, cQ4_1, zQ4, hB4.drew⟩
                | (go_split_ands; refine ⟨?_, ?_, ?_, ?_, ?_, ?_⟩ <;> assumption)
                | (refine ⟨?_, ?_, ?_, ?_, ?_, ?_⟩ <;> first | assumption | (simp; done) | (simp; omega) | exact ((bel1 _ _).alloc (by simp) _).drew | exact Below.drew (by assumption))
                | (go_split_ands; exact keep22 cP4_0 cP4_1 cQ4_0 cQ4_1 zQ4 hB4.drew hw)
                | (go_split_ands; exact keep22 (by first | assumption | (simp; done)) (by first | assumption | (simp; done)) (by first | assumption | (simp; done)) (by first | assumption | (simp; done)) (by first | assumption | (simp; done)) (by first | assumption | exact ((bel1 _ _).alloc (by simp) _).drew | exact Below.drew (by assumption)) hw))
              (first | (go_at_call 48; refine (sHalf_any _ _ _).mono ?_; rintro e w' ⟨rfl, hw⟩) | (go_at_call 73; refine (sCro_any _ _ _ _ _).mono ?_; rintro e w' ⟨rfl, hw⟩)) | fail
            clear hu
            all_goals
              rename_i hS
              obtain ⟨c0, c1, c2, c3, hz, hB⟩ := hS
              go_wp2_with fail
              go_ret
              exact ⟨ret_bool (by rw [HR.out, HX.out]; unfold Bef; rw [Bool.eq_iff_iff]; simp [E1.out]), hB⟩
          · have d1 : decide (halfI a b < halfI c d) = false := by simp; omega
            have d2 : (halfI a b == halfI c d) = false := by simp; omega
            have E1 := Lib.hid e1
            clear e1
            go_enter Try.func46, Try.ntmps46
            go_wp2_with fail
            refine (sWV_any _ _ _).mono ?_; rintro e w1 ⟨rfl, hw1⟩
            obtain ⟨hP1, hQ1, hB1⟩ := ownb2 hw1
            obtain ⟨cP1_0, cP1_1, fP1_0, fP1_1, zP1⟩ := blk2 hP1
            obtain ⟨cQ1_0, cQ1_1, fQ1_0, fQ1_1, zQ1⟩ := blk2 hQ1
            go_wp2_with fail
            refine (sWV_any _ _ _).mono ?_; rintro e w2 ⟨rfl, hw2⟩
            have hP2 := blk_next hP1 hw2
            have hQ2 := blk_next hQ1 hw2
            have hB2 := bel_next hB1 hw2
            obtain ⟨cP2_0, cP2_1, fP2_0, fP2_1, zP2⟩ := blk2 hP2
            obtain ⟨cQ2_0, cQ2_1, fQ2_0, fQ2_1, zQ2⟩ := blk2 hQ2
            go_wp2_with fail
            refine (sHalf_any _ _ _).mono ?_; rintro e w3 ⟨rfl, hw3⟩
            have hP3 := blk_next hP2 hw3
            have hQ3 := blk_next hQ2 hw3
            have hB3 := bel_next hB2 hw3
            obtain ⟨cP3_0, cP3_1, fP3_0, fP3_1, zP3⟩ := blk2 hP3
            obtain ⟨cQ3_0, cQ3_1, fQ3_0, fQ3_1, zQ3⟩ := blk2 hQ3
            go_wp2_with fail
            refine (sHalf_any _ _ _).mono ?_; rintro e w4 ⟨rfl, hw4⟩
            have hP4 := blk_next hP3 hw4
            have hQ4 := blk_next hQ3 hw4
            have hB4 := bel_next hB3 hw4
            obtain ⟨cP4_0, cP4_1, fP4_0, fP4_1, zP4⟩ := blk2 hP4
            obtain ⟨cQ4_0, cQ4_1, fQ4_0, fQ4_1, zQ4⟩ := blk2 hQ4
            go_wp2_with fail
            refine wp_region_held_drew (S := (fun w' => w'.cell? ⟨w.heap.size, 0, none⟩ = some (.int .i64 a) ∧ w'.cell? ⟨w.heap.size, 1, none⟩ = some (.int .i64 b) ∧ w'.cell? ⟨w.heap.size + 1, 0, none⟩ = some (.int .i64 c) ∧ w'.cell? ⟨w.heap.size + 1, 1, none⟩ = some (.int .i64 d) ∧ w.heap.size + 1 < w'.heap.size ∧ Below w.heap.size w w')) (by kernel_rfl) (⟨cP4_0, cP4_1, cQ4_0, cQ4_1, zQ4, hB4.drew⟩) (fun hHeld => ?_)
            obtain ⟨p0_0, p1_0, q0_0, q1_0, z_0, B_0⟩ := id hHeld
            refine wpAnyH_take (i := 0) (oi := _) (v := ?_) rfl (by kernel_rfl) (by kernel_rfl) (by kernel_rfl) (fun _ _ _ h => h) (Or.inl ⟨by rfl, ?_⟩) (by assumption) ?_
            (rotate_left); (focus (intro wv hSw; (try dsimp only at hSw); go_simp; (try with_reducible rfl)))
            try simp only [Act.put, List.getElem_toArray, List.getElem_cons_succ, List.getElem_cons_zero, List.setIfInBounds_toArray, List.set_cons_zero, List.set_cons_succ]
            refine wpAnyH_take (i := 2) (oi := _) (v := ?_) rfl (by kernel_rfl) (by kernel_rfl) (by kernel_rfl) (fun _ _ _ h => h) (Or.inl ⟨by rfl, ?_⟩) (by assumption) ?_
            (rotate_left); (focus (intro wv hSw; (try dsimp only at hSw); go_simp; (try with_reducible rfl)))
            try simp only [Act.put, List.getElem_toArray, List.getElem_cons_succ, List.getElem_cons_zero, List.setIfInBounds_toArray, List.set_cons_zero, List.set_cons_succ]
            refine wpAnyH_ready (rs := [1]) (by kernel_rfl) (by simp) ?_
            refine AllReadyH.cons (o := _) rfl (fun K hK => ?_) AllReadyH.nil
            go_simp
            (go_at_call 48; refine (sHalf_any _ _ _).mono ?_; rintro e x1 ⟨rfl, hx1⟩)
            refine hK.out _ _ ?_ (fun hHeld => ?_)
            · exact keep22 p0_0 p1_0 q0_0 q1_0 z_0 B_0 hx1
            clear hK K
            try simp only [Act.put, List.getElem_toArray, List.getElem_cons_succ, List.getElem_cons_zero, List.setIfInBounds_toArray, List.set_cons_zero, List.set_cons_succ]
            obtain ⟨p0_1, p1_1, q0_1, q1_1, z_1, B_1⟩ := id hHeld
            refine wpAnyH_ready (rs := [3]) (by kernel_rfl) (by simp) ?_
            refine AllReadyH.cons (o := _) rfl (fun K hK => ?_) AllReadyH.nil
            go_simp
            (go_at_call 48; refine (sHalf_any _ _ _).mono ?_; rintro e x2 ⟨rfl, hx2⟩)
            refine hK.out _ _ ?_ (fun hHeld => ?_)
            · exact keep22 p0_1 p1_1 q0_1 q1_1 z_1 B_1 hx2
            clear hK K
            try simp only [Act.put, List.getElem_toArray, List.getElem_cons_succ, List.getElem_cons_zero, List.setIfInBounds_toArray, List.set_cons_zero, List.set_cons_succ]
            obtain ⟨p0_2, p1_2, q0_2, q1_2, z_2, B_2⟩ := id hHeld
            refine wpAnyH_take (i := 4) (oi := _) (v := ?_) rfl (by kernel_rfl) (by kernel_rfl) (by kernel_rfl) (fun _ _ _ h => h) (Or.inl ⟨by rfl, ?_⟩) (by assumption) ?_
            (rotate_left); (focus (intro wv hSw; (try dsimp only at hSw); go_simp; (try with_reducible rfl)))
            try simp only [Act.put, List.getElem_toArray, List.getElem_cons_succ, List.getElem_cons_zero, List.setIfInBounds_toArray, List.set_cons_zero, List.set_cons_succ]
            refine wpAnyH_take (i := 5) (oi := _) (v := ?_) rfl (by kernel_rfl) (by kernel_rfl) (by kernel_rfl) (fun _ _ _ h => h) (Or.inl ⟨by rfl, ?_⟩) (by assumption) ?_
            (rotate_left); (focus (intro wv hSw; (try dsimp only at hSw); go_simp; (try with_reducible rfl)))
            try simp only [Act.put, List.getElem_toArray, List.getElem_cons_succ, List.getElem_cons_zero, List.setIfInBounds_toArray, List.set_cons_zero, List.set_cons_succ]
            refine wpAnyH_take (i := 6) (oi := _) (v := ?_) rfl (by kernel_rfl) (by kernel_rfl) (by kernel_rfl) (fun _ _ _ h => h) (Or.inl ⟨by rfl, ?_⟩) (by assumption) ?_
            (rotate_left); (focus (intro wv hSw; (try dsimp only at hSw); go_simp; (try with_reducible rfl)))
            try simp only [Act.put, List.getElem_toArray, List.getElem_cons_succ, List.getElem_cons_zero, List.setIfInBounds_toArray, List.set_cons_zero, List.set_cons_succ]
            refine wpAnyH_take (i := 8) (oi := _) (v := ?_) rfl (by kernel_rfl) (by kernel_rfl) (by kernel_rfl) (fun _ _ _ h => h) (Or.inl ⟨by rfl, ?_⟩) (by assumption) ?_
            (rotate_left); (focus (intro wv hSw; (try dsimp only at hSw); go_simp; (try with_reducible rfl)))
            try simp only [Act.put, List.getElem_toArray, List.getElem_cons_succ, List.getElem_cons_zero, List.setIfInBounds_toArray, List.set_cons_zero, List.set_cons_succ]
            refine wpAnyH_ready (rs := [7]) (by kernel_rfl) (by simp) ?_
            refine AllReadyH.cons (o := _) rfl (fun K hK => ?_) AllReadyH.nil
            go_simp
            (go_at_call 48; refine (sHalf_any _ _ _).mono ?_; rintro e x3 ⟨rfl, hx3⟩)
            refine hK.out _ _ ?_ (fun hHeld => ?_)
            · exact keep22 p0_2 p1_2 q0_2 q1_2 z_2 B_2 hx3
            clear hK K
            try simp only [Act.put, List.getElem_toArray, List.getElem_cons_succ, List.getElem_cons_zero, List.setIfInBounds_toArray, List.set_cons_zero, List.set_cons_succ]
            obtain ⟨p0_3, p1_3, q0_3, q1_3, z_3, B_3⟩ := id hHeld
            refine wpAnyH_ready (rs := [9]) (by kernel_rfl) (by simp) ?_
            refine AllReadyH.cons (o := _) rfl (fun K hK => ?_) AllReadyH.nil
            go_simp
            (go_at_call 48; refine (sHalf_any _ _ _).mono ?_; rintro e x4 ⟨rfl, hx4⟩)
            refine hK.out _ _ ?_ (fun hHeld => ?_)
            · exact keep22 p0_3 p1_3 q0_3 q1_3 z_3 B_3 hx4
            clear hK K
            try simp only [Act.put, List.getElem_toArray, List.getElem_cons_succ, List.getElem_cons_zero, List.setIfInBounds_toArray, List.set_cons_zero, List.set_cons_succ]
            obtain ⟨p0_4, p1_4, q0_4, q1_4, z_4, B_4⟩ := id hHeld
            refine wpAnyH_take (i := 10) (oi := _) (v := ?_) rfl (by kernel_rfl) (by kernel_rfl) (by kernel_rfl) (fun _ _ _ h => h) (Or.inl ⟨by rfl, ?_⟩) (by assumption) ?_
            (rotate_left); (focus (intro wv hSw; (try dsimp only at hSw); go_simp; (try with_reducible rfl)))
            try simp only [Act.put, List.getElem_toArray, List.getElem_cons_succ, List.getElem_cons_zero, List.setIfInBounds_toArray, List.set_cons_zero, List.set_cons_succ]
            refine wpAnyH_take (i := 11) (oi := _) (v := ?_) rfl (by kernel_rfl) (by kernel_rfl) (by kernel_rfl) (fun _ _ _ h => h) (Or.inl ⟨by rfl, ?_⟩) (by assumption) ?_
            (rotate_left); (focus (intro wv hSw; (try dsimp only at hSw); go_simp; (try with_reducible rfl)))
            try simp only [Act.put, List.getElem_toArray, List.getElem_cons_succ, List.getElem_cons_zero, List.setIfInBounds_toArray, List.set_cons_zero, List.set_cons_succ]
            refine wpAnyH_take (i := 12) (oi := _) (v := undef) rfl (by kernel_rfl) (by kernel_rfl) (by kernel_rfl) (fun _ _ _ h => h) (Or.inr ⟨by kernel_rfl, rfl⟩) (by assumption) ?_
            try simp only [Act.put, List.getElem_toArray, List.getElem_cons_succ, List.getElem_cons_zero, List.setIfInBounds_toArray, List.set_cons_zero, List.set_cons_succ]
            refine wpAnyH_take (i := 13) (oi := _) (v := undef) rfl (by kernel_rfl) (by kernel_rfl) (by kernel_rfl) (fun _ _ _ h => h) (Or.inr ⟨by kernel_rfl, rfl⟩) (by assumption) ?_
            try simp only [Act.put, List.getElem_toArray, List.getElem_cons_succ, List.getElem_cons_zero, List.setIfInBounds_toArray, List.set_cons_zero, List.set_cons_succ]
            refine wpAnyH_take (i := 14) (oi := _) (v := undef) rfl (by kernel_rfl) (by kernel_rfl) (by kernel_rfl) (fun _ _ _ h => h) (Or.inr ⟨by kernel_rfl, rfl⟩) (by assumption) ?_
            try simp only [Act.put, List.getElem_toArray, List.getElem_cons_succ, List.getElem_cons_zero, List.setIfInBounds_toArray, List.set_cons_zero, List.set_cons_succ]
            refine wpAnyH_take (i := 15) (oi := _) (v := undef) rfl (by kernel_rfl) (by kernel_rfl) (by kernel_rfl) (fun _ _ _ h => h) (Or.inr ⟨by kernel_rfl, rfl⟩) (by assumption) ?_
            try simp only [Act.put, List.getElem_toArray, List.getElem_cons_succ, List.getElem_cons_zero, List.setIfInBounds_toArray, List.set_cons_zero, List.set_cons_succ]
            refine wpAnyH_take (i := 16) (oi := _) (v := ?_) rfl (by kernel_rfl) (by kernel_rfl) (by kernel_rfl) (fun _ _ _ h => h) (Or.inl ⟨by rfl, ?_⟩) (by assumption) ?_
            (rotate_left); (focus (intro wv hSw; (try dsimp only at hSw); go_simp; (try with_reducible rfl)))
            try simp only [Act.put, List.getElem_toArray, List.getElem_cons_succ, List.getElem_cons_zero, List.setIfInBounds_toArray, List.set_cons_zero, List.set_cons_succ]
            refine wpAnyH_take (i := 17) (oi := _) (v := ?_) rfl (by kernel_rfl) (by kernel_rfl) (by kernel_rfl) (fun _ _ _ h => h) (Or.inl ⟨by rfl, ?_⟩) (by assumption) ?_
            (rotate_left); (focus (intro wv hSw; (try dsimp only at hSw); go_simp; (try with_reducible rfl)))
            try simp only [Act.put, List.getElem_toArray, List.getElem_cons_succ, List.getElem_cons_zero, List.setIfInBounds_toArray, List.set_cons_zero, List.set_cons_succ]
            refine wpAnyH_take (i := 18) (oi := _) (v := ?_) rfl (by kernel_rfl) (by kernel_rfl) (by kernel_rfl) (fun _ _ _ h => h) (Or.inl ⟨by rfl, ?_⟩) (by assumption) ?_
            (rotate_left); (focus (intro wv hSw; (try dsimp only at hSw); go_simp; (try with_reducible rfl)))
            try simp only [Act.put, List.getElem_toArray, List.getElem_cons_succ, List.getElem_cons_zero, List.setIfInBounds_toArray, List.set_cons_zero, List.set_cons_succ]
            refine wpAnyH_done (by kernel_rfl) ?_ _
            go_wp2_with fail
            go_ret
            exact ⟨ret_bool (by rw [HR.out]; unfold Bef; have := E1.out; rw [Bool.eq_iff_iff]; simp; omega), B_4⟩
set_option maxHeartbeats 4000000 in
theorem iSW_any (a b c d : Int) (w : World) :
    Calls Try.prog 17 #[.agg #[.int .i64 a, .int .i64 b], .agg #[.int .i64 c, .int .i64 d]] w fun e w' => e = .returned (.bool (swB a b c d)) ∧ Below w.heap.size w w' := by
  cases h : goB a b
  · go_enter Try.func17, Try.ntmps17
    go_wp2_with fail
    refine (iGo_any _ _ _).mono ?_; rintro e w1 ⟨rfl, hw1⟩
    obtain ⟨hP1, hQ1, hB1⟩ := ownb2 hw1
    go_wp2
    go_ret
    exact ⟨ret_bool (by unfold swB; simp [h]), hB1⟩
  · cases k : goB c d
    · go_enter Try.func17, Try.ntmps17
      go_wp2_with fail
      refine (iGo_any _ _ _).mono ?_; rintro e w1 ⟨rfl, hw1⟩
      obtain ⟨hP1, hQ1, hB1⟩ := ownb2 hw1
      obtain ⟨cP1_0, cP1_1, fP1_0, fP1_1, zP1⟩ := blk2 hP1
      obtain ⟨cQ1_0, cQ1_1, fQ1_0, fQ1_1, zQ1⟩ := blk2 hQ1
      go_wp2_with fail
      refine (iGo_any _ _ _).mono ?_; rintro e w2 ⟨rfl, hw2⟩
      have hP2 := blk_next hP1 hw2
      have hQ2 := blk_next hQ1 hw2
      have hB2 := bel_next hB1 hw2
      go_wp2
      go_ret
      exact ⟨ret_bool (by unfold swB; simp [h, k]), hB2⟩
    · have HX := Lib.hid (go_cross h k)
      have HY := Lib.hid (go_cross k h)
      cases p : befB a b c d
      · cases q : befB c d a b
        · go_enter Try.func17, Try.ntmps17
          go_wp2_with fail
          refine (iGo_any _ _ _).mono ?_; rintro e w1 ⟨rfl, hw1⟩
          obtain ⟨hP1, hQ1, hB1⟩ := ownb2 hw1
          obtain ⟨cP1_0, cP1_1, fP1_0, fP1_1, zP1⟩ := blk2 hP1
          obtain ⟨cQ1_0, cQ1_1, fQ1_0, fQ1_1, zQ1⟩ := blk2 hQ1
          go_wp2_with fail
          refine (iGo_any _ _ _).mono ?_; rintro e w2 ⟨rfl, hw2⟩
          have hP2 := blk_next hP1 hw2
          have hQ2 := blk_next hQ1 hw2
          have hB2 := bel_next hB1 hw2
          obtain ⟨cP2_0, cP2_1, fP2_0, fP2_1, zP2⟩ := blk2 hP2
          obtain ⟨cQ2_0, cQ2_1, fQ2_0, fQ2_1, zQ2⟩ := blk2 hQ2
          go_wp2_with fail
          refine (iBef_any _ _ _ _ _ HX.out).mono ?_; rintro e w3 ⟨rfl, hw3⟩
          have hP3 := blk_next hP2 hw3
          have hQ3 := blk_next hQ2 hw3
          have hB3 := bel_next hB2 hw3
          obtain ⟨cP3_0, cP3_1, fP3_0, fP3_1, zP3⟩ := blk2 hP3
          obtain ⟨cQ3_0, cQ3_1, fQ3_0, fQ3_1, zQ3⟩ := blk2 hQ3
          go_wp2_with fail
          refine (iBef_any _ _ _ _ _ HY.out).mono ?_; rintro e w4 ⟨rfl, hw4⟩
          have hP4 := blk_next hP3 hw4
          have hQ4 := blk_next hQ3 hw4
          have hB4 := bel_next hB3 hw4
          go_wp2
          go_ret
          exact ⟨ret_bool (by unfold swB; simp [h, k, p, q]), hB4⟩
        · go_enter Try.func17, Try.ntmps17
          go_wp2_with fail
          refine (iGo_any _ _ _).mono ?_; rintro e w1 ⟨rfl, hw1⟩
          obtain ⟨hP1, hQ1, hB1⟩ := ownb2 hw1
          obtain ⟨cP1_0, cP1_1, fP1_0, fP1_1, zP1⟩ := blk2 hP1
          obtain ⟨cQ1_0, cQ1_1, fQ1_0, fQ1_1, zQ1⟩ := blk2 hQ1
          go_wp2_with fail
          refine (iGo_any _ _ _).mono ?_; rintro e w2 ⟨rfl, hw2⟩
          have hP2 := blk_next hP1 hw2
          have hQ2 := blk_next hQ1 hw2
          have hB2 := bel_next hB1 hw2
          obtain ⟨cP2_0, cP2_1, fP2_0, fP2_1, zP2⟩ := blk2 hP2
          obtain ⟨cQ2_0, cQ2_1, fQ2_0, fQ2_1, zQ2⟩ := blk2 hQ2
          go_wp2_with fail
          refine (iBef_any _ _ _ _ _ HX.out).mono ?_; rintro e w3 ⟨rfl, hw3⟩
          have hP3 := blk_next hP2 hw3
          have hQ3 := blk_next hQ2 hw3
          have hB3 := bel_next hB2 hw3
          obtain ⟨cP3_0, cP3_1, fP3_0, fP3_1, zP3⟩ := blk2 hP3
          obtain ⟨cQ3_0, cQ3_1, fQ3_0, fQ3_1, zQ3⟩ := blk2 hQ3
          go_wp2_with fail
          refine (iBef_any _ _ _ _ _ HY.out).mono ?_; rintro e w4 ⟨rfl, hw4⟩
          have hP4 := blk_next hP3 hw4
          have hQ4 := blk_next hQ3 hw4
          have hB4 := bel_next hB3 hw4
          go_wp2
          go_ret
          exact ⟨ret_bool (by unfold swB; simp [h, k, p, q]), hB4⟩
      · go_enter Try.func17, Try.ntmps17
        go_wp2_with fail
        refine (iGo_any _ _ _).mono ?_; rintro e w1 ⟨rfl, hw1⟩
        obtain ⟨hP1, hQ1, hB1⟩ := ownb2 hw1
        obtain ⟨cP1_0, cP1_1, fP1_0, fP1_1, zP1⟩ := blk2 hP1
        obtain ⟨cQ1_0, cQ1_1, fQ1_0, fQ1_1, zQ1⟩ := blk2 hQ1
        go_wp2_with fail
        refine (iGo_any _ _ _).mono ?_; rintro e w2 ⟨rfl, hw2⟩
        have hP2 := blk_next hP1 hw2
        have hQ2 := blk_next hQ1 hw2
        have hB2 := bel_next hB1 hw2
        obtain ⟨cP2_0, cP2_1, fP2_0, fP2_1, zP2⟩ := blk2 hP2
        obtain ⟨cQ2_0, cQ2_1, fQ2_0, fQ2_1, zQ2⟩ := blk2 hQ2
        go_wp2_with fail
        refine (iBef_any _ _ _ _ _ HX.out).mono ?_; rintro e w3 ⟨rfl, hw3⟩
        have hP3 := blk_next hP2 hw3
        have hQ3 := blk_next hQ2 hw3
        have hB3 := bel_next hB2 hw3
        go_wp2
        go_ret
        exact ⟨ret_bool (by unfold swB; simp [h, k, p]), hB3⟩
end Go.Proofs.Ytibpaojhjgpdaaa
