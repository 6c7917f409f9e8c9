/- FnExactCornersOf: whatever the input, the law returns true, and its arguments read as they did. No conditions beyond those of the statement's row. -/
import Derived.Test.YtdmfipgmlplkiaaVk
import Derived.Test.YtdmfipgmlplkiaaGBlock
import Derived.Test.YtdmfipgmlplkiaaGRay
namespace Go.Proofs.Ytdmfipgmlplkiaa.fnExactCornersOf
open Go.Proofs.Ytdmfipgmlplkiaa
open Go.ChangeShapes Go.WideShapes Go.ChangeAt Go.RowKit Go.Joins
set_option linter.unusedVariables false
set_option linter.unusedSimpArgs false
set_option linter.unnecessarySimpa false

theorem own : ownKnob Try.prog.godebug = none := by kernel_rfl
theorem laidOut : laidOutB Try.prog = true := by kernel_rfl

set_option maxRecDepth 100000 in
set_option maxHeartbeats 4000000 in
theorem walk (a0_0 : Int) (a0_1 : Int) (a0_2 : Int) (a0_3 : Int) (a0_4 : Int) (q0 : Wf a0_0 ∧ Wf a0_1 ∧ Wf a0_2 ∧ Wf a0_3 ∧ Wf a0_4) (a1_0 : Int) (a1_1 : Int) (a1_2 : Int) (q1 : Wf a1_0 ∧ Wf a1_1 ∧ Wf a1_2) (w : World) :
    Calls Try.prog 7 #[.agg #[.int .i64 a0_0, .int .i64 a0_1, .int .i64 a0_2, .int .i64 a0_3, .int .i64 a0_4], .agg #[.int .i64 a1_0, .int .i64 a1_1, .int .i64 a1_2]] w fun e w' => e = .returned (.bool true) ∧ Below w.heap.size w w' := by
  obtain ⟨l, hl⟩ : ∃ l, cnL a0_0 a0_1 a0_2 a0_3 a0_4 a1_0 a1_1 a1_2 = l := ⟨_, rfl⟩
  have hlen : l.length ≤ 4 := by rw [← hl]; exact cnL_len _ _ _ _ _ _ _ _
  obtain ⟨m, hm⟩ : ∃ m, l.length = m := ⟨_, rfl⟩
  rw [hm] at hlen
  have HV := Lib.hid hl
  have HM := Lib.hid hm
  clear hl hm q0 q1
  go_enter Try.func7, Try.ntmps7
  go_wp2_with fail
  refine wp_region_held_drew (S := (fun w' => w'.heap[w.heap.size]? = some (.cells #[.int .i64 a0_0, .int .i64 a0_1, .int .i64 a0_2, .int .i64 a0_3, .int .i64 a0_4] 32) ∧ w'.heap[w.heap.size + 1]? = some (.cells #[.int .i64 a1_0, .int .i64 a1_1, .int .i64 a1_2] 34) ∧ Below w.heap.size w w')) (by kernel_rfl) ⟨blk_old (blk_new w _) _, new2 w _ _, (bel2 w _ _).drew⟩ (fun hHeld => ?_)
  obtain ⟨hP_0, hQ_0, hB_0⟩ := id hHeld
  refine wpAnyH_take (i := 0) (oi := _) (v := ?_) rfl (by kernel_rfl) (by kernel_rfl) (by kernel_rfl) (fun _ _ _ h => h) (Or.inl ⟨by rfl, ?_⟩) (by assumption) ?_
  (rotate_left); (focus (intro wv hSw; (obtain ⟨qP, qQ, qB⟩ := hSw); obtain ⟨u0, u1, u2, u3, u4, _, _, _, _, _, _⟩ := blk5 qP; go_simp; (try with_reducible rfl)))
  try simp only [Act.put, List.getElem_toArray, List.getElem_cons_succ, List.getElem_cons_zero, List.setIfInBounds_toArray, List.set_cons_zero, List.set_cons_succ]
  refine wpAnyH_take (i := 2) (oi := _) (v := ?_) rfl (by kernel_rfl) (by kernel_rfl) (by kernel_rfl) (fun _ _ _ h => h) (Or.inl ⟨by rfl, ?_⟩) (by assumption) ?_
  (rotate_left); (focus (intro wv hSw; (obtain ⟨qP, qQ, qB⟩ := hSw); obtain ⟨u0, u1, u2, _, _, _, _⟩ := blk3 qQ; go_simp; (try with_reducible rfl)))
  try simp only [Act.put, List.getElem_toArray, List.getElem_cons_succ, List.getElem_cons_zero, List.setIfInBounds_toArray, List.set_cons_zero, List.set_cons_succ]
  refine wpAnyH_ready (rs := [1]) (by kernel_rfl) (by simp) ?_
  refine AllReadyH.cons (o := _) rfl (fun K hK => ?_) AllReadyH.nil
  go_simp
  (go_at_call 18; refine (toBlock_any _ _ _ _ _ _).mono ?_; rintro e x0c ⟨rfl, hw_0c⟩)
  refine hK.out _ _ ⟨blk_next hP_0 hw_0c, blk_next hQ_0 hw_0c, bel_next hB_0 hw_0c⟩ (fun hHeld => ?_)
  clear hK K
  try simp only [Act.put, List.getElem_toArray, List.getElem_cons_succ, List.getElem_cons_zero, List.setIfInBounds_toArray, List.set_cons_zero, List.set_cons_succ]
  obtain ⟨hP_0c, hQ_0c, hB_0c⟩ := id hHeld
  refine wpAnyH_ready (rs := [3]) (by kernel_rfl) (by simp) ?_
  refine AllReadyH.cons (o := _) rfl (fun K hK => ?_) AllReadyH.nil
  go_simp
  (go_at_call 19; refine (toRay_any _ _ _ _).mono ?_; rintro e x0cc ⟨rfl, hw_0cc⟩)
  refine hK.out _ _ ⟨blk_next hP_0c hw_0cc, blk_next hQ_0c hw_0cc, bel_next hB_0c hw_0cc⟩ (fun hHeld => ?_)
  clear hK K
  try simp only [Act.put, List.getElem_toArray, List.getElem_cons_succ, List.getElem_cons_zero, List.setIfInBounds_toArray, List.set_cons_zero, List.set_cons_succ]
  obtain ⟨hP_0cc, hQ_0cc, hB_0cc⟩ := id hHeld
  refine wpAnyH_ready (rs := [4]) (by kernel_rfl) (by simp) ?_
  refine AllReadyH.cons (o := _) rfl (fun K hK => ?_) AllReadyH.nil
  go_simp
  (go_at_call 28; refine (sCn_is _ HV.out).mono ?_; rintro e x0ccc ⟨As, cs, rfl, hS_0ccc, hw_0ccc⟩)
  refine hK.out _ _ ⟨blk_next hP_0cc hw_0ccc, blk_next hQ_0cc hw_0ccc, bel_next hB_0cc hw_0ccc⟩ (fun hHeld => ?_)
  clear hK K
  try simp only [Act.put, List.getElem_toArray, List.getElem_cons_succ, List.getElem_cons_zero, List.setIfInBounds_toArray, List.set_cons_zero, List.set_cons_succ]
  obtain ⟨hP_0ccc, hQ_0ccc, hB_0ccc⟩ := id hHeld
  refine wpAnyH_take (i := 5) (oi := _) (v := ?_) rfl (by kernel_rfl) (by kernel_rfl) (by kernel_rfl) (fun _ _ _ h => h) (Or.inl ⟨by rfl, ?_⟩) (by assumption) ?_
  (rotate_left); (focus (intro wv hSw; (obtain ⟨qP, qQ, qB⟩ := hSw);  go_simp; (try with_reducible rfl)))
  try simp only [Act.put, List.getElem_toArray, List.getElem_cons_succ, List.getElem_cons_zero, List.setIfInBounds_toArray, List.set_cons_zero, List.set_cons_succ]
  refine wpAnyH_done (by kernel_rfl) ?_ _
  have hS1 := hS_0ccc.mono hB_0cc.size
  obtain ⟨nS, hnS⟩ : ∃ nS, nS = x0ccc.heap.size := ⟨_, rfl⟩
  have hSlt : ∀ g, As = some ⟨g, 0, none⟩ → g < nS := fun g hg => by rcases hS1.form with ⟨e, _⟩ | ⟨g1, e, _, h⟩; rw [e] at hg; cases hg; rw [e] at hg; cases hg; rw [hnS]; exact h
  have hP1 := hP_0ccc
  have hQ1 := hQ_0ccc
  have hB1 := hB_0ccc
  rw [HM.out]
  go_wp2_with fail
  have hS_0 := hS1.drew
  refine wp_region_held_drew (S := (fun w' => w'.heap[w.heap.size]? = some (.cells #[.int .i64 a0_0, .int .i64 a0_1, .int .i64 a0_2, .int .i64 a0_3, .int .i64 a0_4] 32) ∧ w'.heap[w.heap.size + 1]? = some (.cells #[.int .i64 a1_0, .int .i64 a1_1, .int .i64 a1_2] 34) ∧ nS ≤ w'.heap.size ∧ Below w.heap.size w w')) (by kernel_rfl) ⟨hP1, hQ1, (by show nS ≤ _; rw [hnS]; exact Nat.le_refl _), hB1.drew⟩ (fun hHeld => ?_)
  obtain ⟨hP_0, hQ_0, hZ_0, hB_0⟩ := id hHeld
  refine wpAnyH_take (i := 0) (oi := _) (v := ?_) rfl (by kernel_rfl) (by kernel_rfl) (by kernel_rfl) (fun _ _ _ h => h) (Or.inl ⟨by rfl, ?_⟩) (by assumption) ?_
  (rotate_left); (focus (intro wv hSw; (obtain ⟨qP, qQ, qZ, qB⟩ := hSw); obtain ⟨u0, u1, u2, u3, u4, _, _, _, _, _, _⟩ := blk5 qP; go_simp; (try with_reducible rfl)))
  try simp only [Act.put, List.getElem_toArray, List.getElem_cons_succ, List.getElem_cons_zero, List.setIfInBounds_toArray, List.set_cons_zero, List.set_cons_succ]
  refine wpAnyH_take (i := 2) (oi := _) (v := ?_) rfl (by kernel_rfl) (by kernel_rfl) (by kernel_rfl) (fun _ _ _ h => h) (Or.inl ⟨by rfl, ?_⟩) (by assumption) ?_
  (rotate_left); (focus (intro wv hSw; (obtain ⟨qP, qQ, qZ, qB⟩ := hSw); obtain ⟨u0, u1, u2, _, _, _, _⟩ := blk3 qQ; go_simp; (try with_reducible rfl)))
  try simp only [Act.put, List.getElem_toArray, List.getElem_cons_succ, List.getElem_cons_zero, List.setIfInBounds_toArray, List.set_cons_zero, List.set_cons_succ]
  refine wpAnyH_ready (rs := [1]) (by kernel_rfl) (by simp) ?_
  refine AllReadyH.cons (o := _) rfl (fun K hK => ?_) AllReadyH.nil
  go_simp
  (go_at_call 18; refine (toBlock_any _ _ _ _ _ _).mono ?_; rintro e x0c ⟨rfl, hw_0c⟩)
  refine hK.out _ _ ⟨blk_next hP_0 hw_0c, blk_next hQ_0 hw_0c, Nat.le_trans hZ_0 hw_0c.size, bel_next hB_0 hw_0c⟩ (fun hHeld => ?_)
  clear hK K
  try simp only [Act.put, List.getElem_toArray, List.getElem_cons_succ, List.getElem_cons_zero, List.setIfInBounds_toArray, List.set_cons_zero, List.set_cons_succ]
  obtain ⟨hP_0c, hQ_0c, hZ_0c, hB_0c⟩ := id hHeld
  have hS_0c := hS_0.next hw_0c
  refine wpAnyH_ready (rs := [3]) (by kernel_rfl) (by simp) ?_
  refine AllReadyH.cons (o := _) rfl (fun K hK => ?_) AllReadyH.nil
  go_simp
  (go_at_call 19; refine (toRay_any _ _ _ _).mono ?_; rintro e x0cc ⟨rfl, hw_0cc⟩)
  refine hK.out _ _ ⟨blk_next hP_0c hw_0cc, blk_next hQ_0c hw_0cc, Nat.le_trans hZ_0c hw_0cc.size, bel_next hB_0c hw_0cc⟩ (fun hHeld => ?_)
  clear hK K
  try simp only [Act.put, List.getElem_toArray, List.getElem_cons_succ, List.getElem_cons_zero, List.setIfInBounds_toArray, List.set_cons_zero, List.set_cons_succ]
  obtain ⟨hP_0cc, hQ_0cc, hZ_0cc, hB_0cc⟩ := id hHeld
  have hS_0cc := hS_0c.next hw_0cc
  refine wpAnyH_ready (rs := [4]) (by kernel_rfl) (by simp) ?_
  refine AllReadyH.cons (o := _) rfl (fun K hK => ?_) AllReadyH.nil
  go_simp
  (go_at_call 29; refine (iCn_is _ HV.out).mono ?_; rintro e x0ccc ⟨Ai, ci, rfl, hI_0ccc, hw_0ccc⟩)
  refine hK.out _ _ ⟨blk_next hP_0cc hw_0ccc, blk_next hQ_0cc hw_0ccc, Nat.le_trans hZ_0cc hw_0ccc.size, bel_next hB_0cc hw_0ccc⟩ (fun hHeld => ?_)
  clear hK K
  try simp only [Act.put, List.getElem_toArray, List.getElem_cons_succ, List.getElem_cons_zero, List.setIfInBounds_toArray, List.set_cons_zero, List.set_cons_succ]
  obtain ⟨hP_0ccc, hQ_0ccc, hZ_0ccc, hB_0ccc⟩ := id hHeld
  have hS_0ccc := hS_0cc.next hw_0ccc
  refine wpAnyH_take (i := 5) (oi := _) (v := ?_) rfl (by kernel_rfl) (by kernel_rfl) (by kernel_rfl) (fun _ _ _ h => h) (Or.inl ⟨by rfl, ?_⟩) (by assumption) ?_
  (rotate_left); (focus (intro wv hSw; (obtain ⟨qP, qQ, qZ, qB⟩ := hSw);  go_simp; (try with_reducible rfl)))
  try simp only [Act.put, List.getElem_toArray, List.getElem_cons_succ, List.getElem_cons_zero, List.setIfInBounds_toArray, List.set_cons_zero, List.set_cons_succ]
  refine wpAnyH_done (by kernel_rfl) ?_ _
  have hI2 := hI_0ccc.mono hB_0cc.size
  have hIge : ∀ g, Ai = some ⟨g, 0, none⟩ → nS ≤ g := fun g hg => by rcases hI_0ccc.form with ⟨e, _⟩ | ⟨g1, e, h, _⟩; rw [e] at hg; cases hg; rw [e] at hg; cases hg; exact Nat.le_trans hZ_0cc h
  have hS2 := hS_0ccc
  have hP2 := hP_0ccc
  have hQ2 := hQ_0ccc
  have hB2 := hB_0ccc
  rw [HM.out]
  go_wp2_with fail
  refine (eqSpotS_same _ _ _ _ l HM.out hI2.row hS2.row (by omega)).mono ?_; rintro e' w3 ⟨rfl, hw3⟩
  have hP3 := blk_next hP2 hw3
  have hQ3 := blk_next hQ2 hw3
  have hS3 := hS2.next hw3
  have hI3 := hI2.next hw3
  have hB3 := bel_next hB2 hw3
  go_wp2_with fail
  refine (markSpotS_any w.heap.size _ _ l 1 HM.out hI3 (by omega) (by omega) (by omega)).mono ?_; rintro e' wN ⟨rfl, hIN, hG⟩
  have hB4 := SOwn.below_grown hI3 hB3 hG
  have hS4 := hS3.grown_far hG (fun g hg e => by have := hSlt g hg; rcases hI3.form with ⟨e2, _⟩ | ⟨g1, e2, h, _⟩; rw [e2] at e; simp [Value.ownBlock] at e; rw [e2] at e; simp [Value.ownBlock] at e; have := hIge g1 e2; omega)
  have hP4 := blk_grown hP3 hG (SOwn.ne_type hI3 (n := m) hP3 (by decide))
  have hQ4 := blk_grown hQ3 hG (SOwn.ne_type hI3 (n := m) hQ3 (by decide))
  have hI4 := hIN
  clear hG
  go_wp2_with fail
  refine (heldSpotS_any Ai ci 1 (m := m) hI4.row (by omega) (by omega) (by omega)).mono ?_; rintro e' w5 ⟨rfl, hw5⟩
  have hP5 := blk_next hP4 hw5
  have hQ5 := blk_next hQ4 hw5
  have hS5 := hS4.next hw5
  have hI5 := hI4.next hw5
  have hB5 := bel_next hB4 hw5
  have hk1 : ¬ (1 + 3 * (m : Int)) < 0 := by omega
  go_wp2_with fail
  have hS_0 := hS5.drew
  have hI_0 := hI5.drew
  refine wp_region_held_drew (S := (fun w' => w'.heap[w.heap.size]? = some (.cells #[.int .i64 a0_0, .int .i64 a0_1, .int .i64 a0_2, .int .i64 a0_3, .int .i64 a0_4] 32) ∧ w'.heap[w.heap.size + 1]? = some (.cells #[.int .i64 a1_0, .int .i64 a1_1, .int .i64 a1_2] 34) ∧ Below w.heap.size w w')) (by kernel_rfl) ⟨hP5, hQ5, hB5.drew⟩ (fun hHeld => ?_)
  obtain ⟨hP_0, hQ_0, hB_0⟩ := id hHeld
  refine wpAnyH_take (i := 0) (oi := _) (v := ?_) rfl (by kernel_rfl) (by kernel_rfl) (by kernel_rfl) (fun _ _ _ h => h) (Or.inl ⟨by rfl, ?_⟩) (by assumption) ?_
  (rotate_left); (focus (intro wv hSw; (obtain ⟨qP, qQ, qB⟩ := hSw); obtain ⟨u0, u1, u2, u3, u4, _, _, _, _, _, _⟩ := blk5 qP; go_simp; (try with_reducible rfl)))
  try simp only [Act.put, List.getElem_toArray, List.getElem_cons_succ, List.getElem_cons_zero, List.setIfInBounds_toArray, List.set_cons_zero, List.set_cons_succ]
  refine wpAnyH_take (i := 2) (oi := _) (v := ?_) rfl (by kernel_rfl) (by kernel_rfl) (by kernel_rfl) (fun _ _ _ h => h) (Or.inl ⟨by rfl, ?_⟩) (by assumption) ?_
  (rotate_left); (focus (intro wv hSw; (obtain ⟨qP, qQ, qB⟩ := hSw); obtain ⟨u0, u1, u2, _, _, _, _⟩ := blk3 qQ; go_simp; (try with_reducible rfl)))
  try simp only [Act.put, List.getElem_toArray, List.getElem_cons_succ, List.getElem_cons_zero, List.setIfInBounds_toArray, List.set_cons_zero, List.set_cons_succ]
  refine wpAnyH_ready (rs := [1]) (by kernel_rfl) (by simp) ?_
  refine AllReadyH.cons (o := _) rfl (fun K hK => ?_) AllReadyH.nil
  go_simp
  (go_at_call 18; refine (toBlock_any _ _ _ _ _ _).mono ?_; rintro e x0c ⟨rfl, hw_0c⟩)
  refine hK.out _ _ ⟨blk_next hP_0 hw_0c, blk_next hQ_0 hw_0c, bel_next hB_0 hw_0c⟩ (fun hHeld => ?_)
  clear hK K
  try simp only [Act.put, List.getElem_toArray, List.getElem_cons_succ, List.getElem_cons_zero, List.setIfInBounds_toArray, List.set_cons_zero, List.set_cons_succ]
  obtain ⟨hP_0c, hQ_0c, hB_0c⟩ := id hHeld
  have hS_0c := hS_0.next hw_0c
  have hI_0c := hI_0.next hw_0c
  refine wpAnyH_ready (rs := [3]) (by kernel_rfl) (by simp) ?_
  refine AllReadyH.cons (o := _) rfl (fun K hK => ?_) AllReadyH.nil
  go_simp
  (go_at_call 19; refine (toRay_any _ _ _ _).mono ?_; rintro e x0cc ⟨rfl, hw_0cc⟩)
  refine hK.out _ _ ⟨blk_next hP_0c hw_0cc, blk_next hQ_0c hw_0cc, bel_next hB_0c hw_0cc⟩ (fun hHeld => ?_)
  clear hK K
  try simp only [Act.put, List.getElem_toArray, List.getElem_cons_succ, List.getElem_cons_zero, List.setIfInBounds_toArray, List.set_cons_zero, List.set_cons_succ]
  obtain ⟨hP_0cc, hQ_0cc, hB_0cc⟩ := id hHeld
  have hS_0cc := hS_0c.next hw_0cc
  have hI_0cc := hI_0c.next hw_0cc
  refine wpAnyH_ready (rs := [4]) (by kernel_rfl) (by simp) ?_
  refine AllReadyH.cons (o := _) rfl (fun K hK => ?_) AllReadyH.nil
  go_simp
  (go_at_call 29; refine (iCn_is _ HV.out).mono ?_; rintro e x0ccc ⟨Ah, ch, rfl, hH_0ccc, hw_0ccc⟩)
  refine hK.out _ _ ⟨blk_next hP_0cc hw_0ccc, blk_next hQ_0cc hw_0ccc, bel_next hB_0cc hw_0ccc⟩ (fun hHeld => ?_)
  clear hK K
  try simp only [Act.put, List.getElem_toArray, List.getElem_cons_succ, List.getElem_cons_zero, List.setIfInBounds_toArray, List.set_cons_zero, List.set_cons_succ]
  obtain ⟨hP_0ccc, hQ_0ccc, hB_0ccc⟩ := id hHeld
  have hS_0ccc := hS_0cc.next hw_0ccc
  have hI_0ccc := hI_0cc.next hw_0ccc
  refine wpAnyH_take (i := 5) (oi := _) (v := ?_) rfl (by kernel_rfl) (by kernel_rfl) (by kernel_rfl) (fun _ _ _ h => h) (Or.inl ⟨by rfl, ?_⟩) (by assumption) ?_
  (rotate_left); (focus (intro wv hSw; (obtain ⟨qP, qQ, qB⟩ := hSw);  go_simp; (try with_reducible rfl)))
  try simp only [Act.put, List.getElem_toArray, List.getElem_cons_succ, List.getElem_cons_zero, List.setIfInBounds_toArray, List.set_cons_zero, List.set_cons_succ]
  refine wpAnyH_done (by kernel_rfl) ?_ _
  have hH6 := hH_0ccc
  have hS6 := hS_0ccc
  have hI6 := hI_0ccc
  have hB6 := hB_0ccc
  rw [HM.out]
  go_wp2_with fail
  refine (eqSpotS_same _ _ _ _ l HM.out hH6.row hS6.row (by omega)).mono ?_; rintro e' w7 ⟨rfl, hw7⟩
  have hS7 := hS6.next hw7
  have hI7 := hI6.next hw7
  have hH7 := hH6.next hw7
  have hB7 := bel_next hB6 hw7
  go_wp2_with fail
  refine (heldSpotS_any Ai ci 1 (m := m) hI7.row (by omega) (by omega) (by omega)).mono ?_; rintro e' w8 ⟨rfl, hw8⟩
  have hS8 := hS7.next hw8
  have hI8 := hI7.next hw8
  have hH8 := hH7.next hw8
  have hB8 := bel_next hB7 hw8
  go_wp2
  go_ret
  exact ⟨rfl, by first | exact hB8 | exact hB8.drew⟩

set_option maxRecDepth 100000 in
theorem lifted (os : Os) (started : os.Started) (H : Type) (enc : TypeId × Value → H) :
    ReturnsInHanded {} Try.checked os 7 .any (Rows.fnExactCornersOfSpec.pre6 enc Try.prog Try.f7 Rows.fnExactCornersOfRow.domain false) (Rows.fnExactCornersOfSpec.post enc Try.prog Try.f7 false true false false) := by
  refine returnsInHanded_of_change (C := Try.checked) own started (by kernel_rfl) Try.func7
    (ChangeSpec.witness6 (enc := enc) (C := Try.checked) false ⟨#[], #[.agg #[.int .i64 0, .int .i64 0, .int .i64 0, .int .i64 0, .int .i64 0], .agg #[.int .i64 0, .int .i64 0, .int .i64 0]], []⟩ 8 (by kernel_rfl) (by kernel_rfl) (by kernel_rfl) (by kernel_rfl)) ?_
  intro W base args ds gs before hval0 hW hcnd _
  have hval : ∀ (j : Nat) t v, Try.f7.params[j]? = some t → args[j]? = some v → Value.okWide Try.prog W .any base t v := hval0
  have hW' := hW
  obtain ⟨p, q, hA0, hV, rfl, hfz, hnd⟩ := hW
  have hA : DataW.TrodAll enc Try.prog W 0 (fun _ => true) true Try.f7.params.toList args.toList ds p := hA0
  rw [Try.params7] at hA hval
  obtain ⟨v0, vs0, d0, ds0, p0, q0, hargs, rfl, rfl, h0, r0⟩ := trodAll_cons hA
  obtain ⟨v1, vs1, d1, ds1, p1, q1, rfl, rfl, rfl, h1, r1⟩ := trodAll_cons r0
  obtain ⟨rfl, rfl, rfl⟩ := trodAll_nil r1
  obtain rfl : args = #[v0, v1] := by cases args; simp_all
  obtain ⟨rfl, rfl⟩ := trodVars_none hV
  have k0 := h0
  have lt0 : ∀ x ∈ p0, x.block < W.heap.size := by obtain ⟨m, hm⟩ := k0; exact DataW.trod_lt m _ _ _ hm
  have k1 := h1
  have lt1 : ∀ x ∈ p1, x.block < W.heap.size := by obtain ⟨m, hm⟩ := k1; exact DataW.trod_lt m _ _ _ hm
  obtain ⟨⟨a0_0, a0_1, a0_2, a0_3, a0_4⟩, rfl, q0⟩ := openBlock (hval 0 32 v0 rfl rfl) h0
  obtain ⟨⟨a1_0, a1_1, a1_2⟩, rfl, q1⟩ := openRay (hval 1 34 v1 rfl rfl) h1
  clear hA0 hval0
  refine (walk a0_0 a0_1 a0_2 a0_3 a0_4 q0 a1_0 a1_1 a1_2 q1 W).mono fun e W' ⟨he, bel⟩ => ?_
  subst he
  exact ⟨_, rfl, _, _, _, [], _, [], hW', trodAll_mk1 (shut_bool Try.underlying4 _), (trodAll_cons_mk (Below.trod laidOut (by kernel_rfl) (of_decide_eq_true (by kernel_rfl)) k0 bel lt0) (trodAll_cons_mk (Below.trod laidOut (by kernel_rfl) (of_decide_eq_true (by kernel_rfl)) k1 bel lt1) trodAll_mk0)), rfl, bel.frame _, fun h => by cases h⟩

theorem over : Rows.fnExactCornersOfRow.holds Try.pinned (OpenSpec.ofChange Rows.fnExactCornersOfSpec) :=
  OpenClaim.holds_of_wide 7 Try.f7 rfl rfl rfl rfl rfl rfl rfl ⟨rfl, rfl, rfl, rfl, rfl⟩ rfl rfl rfl rfl rfl (by kernel_rfl) Try.func7 (by kernel_rfl)
    (of_decide_eq_true (by kernel_rfl)) (by unfold Func.isWrapper; first | (rw [if_pos (by decide +kernel)]; kernel_rfl) | (rw [if_neg (by decide +kernel)]; exact ⟨rfl, rfl⟩))
    (fun os started H enc _ => lifted os started H enc)

/-- The statement. -/
theorem proved : Rows.FnExactCornersOfSaid :=
  over
#print axioms proved
end Go.Proofs.Ytdmfipgmlplkiaa.fnExactCornersOf
