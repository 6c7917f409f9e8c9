/- FnExactLowestUp: whatever the input, the law returns true, and its arguments read as they did. No conditions beyond those of the statement's row. -/
import Derived.Test.YtdmfipgmlplkiaaVe
import Derived.Test.YtdmfipgmlplkiaaGPlace
import Derived.Test.YtdmfipgmlplkiaaGBlock
namespace Go.Proofs.Ytdmfipgmlplkiaa.fnExactLowestUp
open Go.Proofs.Ytdmfipgmlplkiaa
open Go.ChangeShapes Go.WideShapes Go.ChangeAt Go.RowKit Go.Joins
set_option linter.unusedVariables false
set_option linter.unusedSimpArgs false
set_option linter.unnecessarySimpa false

theorem own : ownKnob Try.prog.godebug = none := by kernel_rfl
theorem laidOut : laidOutB Try.prog = true := by kernel_rfl

set_option maxRecDepth 100000 in
set_option maxHeartbeats 4000000 in
theorem walk (a0_0 : Int) (a0_1 : Int) (q0 : Wf a0_0 ∧ Wf a0_1) (a1_0 : Int) (a1_1 : Int) (a1_2 : Int) (a1_3 : Int) (a1_4 : Int) (q1 : Wf a1_0 ∧ Wf a1_1 ∧ Wf a1_2 ∧ Wf a1_3 ∧ Wf a1_4) (a2 : Int) (w2 : (Lit.int .i64 a2).wf = true) (a3 : Int) (w3 : (Lit.int .i64 a3).wf = true) (w : World) :
    Calls Try.prog 9 #[.agg #[.int .i64 a0_0, .int .i64 a0_1], .agg #[.int .i64 a1_0, .int .i64 a1_1, .int .i64 a1_2, .int .i64 a1_3, .int .i64 a1_4], .int .i64 a2, .int .i64 a3] w fun e w' => e = .returned (.bool true) ∧ Below w.heap.size w w' := by
  cases hv : luB a0_0 a0_1 a1_0 a1_1 a1_2 a1_3 a1_4 a2 a3
  · have HV := Lib.hid hv
    clear hv
    go_enter Try.func9, Try.ntmps9
    go_wp2_with fail
    refine wp_region_held_drew (S := (fun w' => w'.heap[w.heap.size]? = some (.cells #[.int .i64 a0_0, .int .i64 a0_1] 30) ∧ w'.heap[w.heap.size + 1]? = some (.cells #[.int .i64 a1_0, .int .i64 a1_1, .int .i64 a1_2, .int .i64 a1_3, .int .i64 a1_4] 32) ∧ Below w.heap.size w w')) (by kernel_rfl) ⟨blk_old (blk_new w _) _, new2 w _ _, (bel2 w _ _).drew⟩ (fun hHeld => ?_)
    obtain ⟨hP_0, hQ_0, hB_0⟩ := id hHeld
    refine wpAnyH_take (i := 0) (oi := _) (v := ?_) rfl (by kernel_rfl) (by kernel_rfl) (by kernel_rfl) (fun _ _ _ h => h) (Or.inl ⟨by rfl, ?_⟩) (by assumption) ?_
    (rotate_left); (focus (intro wv hSw; (obtain ⟨qP, qQ, qB⟩ := hSw); obtain ⟨_, _, _, _, _⟩ := blk2 qP; obtain ⟨_, _, _, _, _, _, _, _, _, _, _⟩ := blk5 qQ; go_simp; (try with_reducible rfl)))
    try simp only [Act.put, List.getElem_toArray, List.getElem_cons_succ, List.getElem_cons_zero, List.setIfInBounds_toArray, List.set_cons_zero, List.set_cons_succ]
    refine wpAnyH_take (i := 2) (oi := _) (v := ?_) rfl (by kernel_rfl) (by kernel_rfl) (by kernel_rfl) (fun _ _ _ h => h) (Or.inl ⟨by rfl, ?_⟩) (by assumption) ?_
    (rotate_left); (focus (intro wv hSw; (obtain ⟨qP, qQ, qB⟩ := hSw); obtain ⟨_, _, _, _, _⟩ := blk2 qP; obtain ⟨_, _, _, _, _, _, _, _, _, _, _⟩ := blk5 qQ; go_simp; (try with_reducible rfl)))
    try simp only [Act.put, List.getElem_toArray, List.getElem_cons_succ, List.getElem_cons_zero, List.setIfInBounds_toArray, List.set_cons_zero, List.set_cons_succ]
    refine wpAnyH_take (i := 4) (oi := _) (v := ?_) rfl (by kernel_rfl) (by kernel_rfl) (by kernel_rfl) (fun _ _ _ h => h) (Or.inl ⟨by rfl, ?_⟩) (by assumption) ?_
    (rotate_left); (focus (intro wv hSw; (obtain ⟨qP, qQ, qB⟩ := hSw); obtain ⟨_, _, _, _, _⟩ := blk2 qP; obtain ⟨_, _, _, _, _, _, _, _, _, _, _⟩ := blk5 qQ; go_simp; (try with_reducible rfl)))
    try simp only [Act.put, List.getElem_toArray, List.getElem_cons_succ, List.getElem_cons_zero, List.setIfInBounds_toArray, List.set_cons_zero, List.set_cons_succ]
    refine wpAnyH_take (i := 5) (oi := _) (v := ?_) rfl (by kernel_rfl) (by kernel_rfl) (by kernel_rfl) (fun _ _ _ h => h) (Or.inl ⟨by rfl, ?_⟩) (by assumption) ?_
    (rotate_left); (focus (intro wv hSw; (obtain ⟨qP, qQ, qB⟩ := hSw); obtain ⟨_, _, _, _, _⟩ := blk2 qP; obtain ⟨_, _, _, _, _, _, _, _, _, _, _⟩ := blk5 qQ; go_simp; (try with_reducible rfl)))
    try simp only [Act.put, List.getElem_toArray, List.getElem_cons_succ, List.getElem_cons_zero, List.setIfInBounds_toArray, List.set_cons_zero, List.set_cons_succ]
    refine wpAnyH_ready (rs := [1]) (by kernel_rfl) (by simp) ?_
    refine AllReadyH.cons (o := _) rfl (fun K hK => ?_) (AllReadyH.nil)
    go_simp
    (go_at_call 17; refine (toPlace_any _ _ _).mono ?_; rintro e x0c ⟨rfl, hw_0c⟩)
    refine hK.out _ _ ⟨blk_next hP_0 hw_0c, blk_next hQ_0 hw_0c, bel_next hB_0 hw_0c⟩ (fun hHeld => ?_)
    clear hK K
    try simp only [Act.put, List.getElem_toArray, List.getElem_cons_succ, List.getElem_cons_zero, List.setIfInBounds_toArray, List.set_cons_zero, List.set_cons_succ]
    obtain ⟨hP_0c, hQ_0c, hB_0c⟩ := id hHeld
    refine wpAnyH_ready (rs := [3]) (by kernel_rfl) (by simp) ?_
    refine AllReadyH.cons (o := _) rfl (fun K hK => ?_) (AllReadyH.nil)
    go_simp
    (go_at_call 18; refine (toBlock_any _ _ _ _ _ _).mono ?_; rintro e x0cc ⟨rfl, hw_0cc⟩)
    refine hK.out _ _ ⟨blk_next hP_0c hw_0cc, blk_next hQ_0c hw_0cc, bel_next hB_0c hw_0cc⟩ (fun hHeld => ?_)
    clear hK K
    try simp only [Act.put, List.getElem_toArray, List.getElem_cons_succ, List.getElem_cons_zero, List.setIfInBounds_toArray, List.set_cons_zero, List.set_cons_succ]
    obtain ⟨hP_0cc, hQ_0cc, hB_0cc⟩ := id hHeld
    refine wpAnyH_ready (rs := [6]) (by kernel_rfl) (by simp) ?_
    refine AllReadyH.cons (o := _) rfl (fun K hK => ?_) (AllReadyH.nil)
    go_simp
    (go_at_call 35; refine (sLU_f _ _ _ _ _ _ _ _ _ _ HV.out).mono ?_; rintro e x0ccc ⟨rfl, hw_0ccc⟩)
    refine hK.out _ _ ⟨blk_next hP_0cc hw_0ccc, blk_next hQ_0cc hw_0ccc, bel_next hB_0cc hw_0ccc⟩ (fun hHeld => ?_)
    clear hK K
    try simp only [Act.put, List.getElem_toArray, List.getElem_cons_succ, List.getElem_cons_zero, List.setIfInBounds_toArray, List.set_cons_zero, List.set_cons_succ]
    obtain ⟨hP_0ccc, hQ_0ccc, hB_0ccc⟩ := id hHeld
    refine wpAnyH_take (i := 7) (oi := _) (v := ?_) rfl (by kernel_rfl) (by kernel_rfl) (by kernel_rfl) (fun _ _ _ h => h) (Or.inl ⟨by rfl, ?_⟩) (by assumption) ?_
    (rotate_left); (focus (intro wv hSw; (obtain ⟨qP, qQ, qB⟩ := hSw); obtain ⟨_, _, _, _, _⟩ := blk2 qP; obtain ⟨_, _, _, _, _, _, _, _, _, _, _⟩ := blk5 qQ; go_simp; (try with_reducible rfl)))
    try simp only [Act.put, List.getElem_toArray, List.getElem_cons_succ, List.getElem_cons_zero, List.setIfInBounds_toArray, List.set_cons_zero, List.set_cons_succ]
    refine wpAnyH_done (by kernel_rfl) ?_ _
    have hP := hP_0ccc
    have hQ := hQ_0ccc
    have hB := hB_0ccc
    clear hP_0 hQ_0 hB_0 hP_0c hQ_0c hB_0c hP_0cc hQ_0cc hB_0cc hP_0ccc hQ_0ccc hB_0ccc
    go_wp2_with fail
    refine wp_region_held_drew (S := (fun w' => w'.heap[w.heap.size]? = some (.cells #[.int .i64 a0_0, .int .i64 a0_1] 30) ∧ w'.heap[w.heap.size + 1]? = some (.cells #[.int .i64 a1_0, .int .i64 a1_1, .int .i64 a1_2, .int .i64 a1_3, .int .i64 a1_4] 32) ∧ Below w.heap.size w w')) (by kernel_rfl) ⟨hP, hQ, hB.drew⟩ (fun hHeld => ?_)
    obtain ⟨hP_0, hQ_0, hB_0⟩ := id hHeld
    refine wpAnyH_take (i := 0) (oi := _) (v := ?_) rfl (by kernel_rfl) (by kernel_rfl) (by kernel_rfl) (fun _ _ _ h => h) (Or.inl ⟨by rfl, ?_⟩) (by assumption) ?_
    (rotate_left); (focus (intro wv hSw; (obtain ⟨qP, qQ, qB⟩ := hSw); obtain ⟨_, _, _, _, _⟩ := blk2 qP; obtain ⟨_, _, _, _, _, _, _, _, _, _, _⟩ := blk5 qQ; go_simp; (try with_reducible rfl)))
    try simp only [Act.put, List.getElem_toArray, List.getElem_cons_succ, List.getElem_cons_zero, List.setIfInBounds_toArray, List.set_cons_zero, List.set_cons_succ]
    refine wpAnyH_take (i := 2) (oi := _) (v := ?_) rfl (by kernel_rfl) (by kernel_rfl) (by kernel_rfl) (fun _ _ _ h => h) (Or.inl ⟨by rfl, ?_⟩) (by assumption) ?_
    (rotate_left); (focus (intro wv hSw; (obtain ⟨qP, qQ, qB⟩ := hSw); obtain ⟨_, _, _, _, _⟩ := blk2 qP; obtain ⟨_, _, _, _, _, _, _, _, _, _, _⟩ := blk5 qQ; go_simp; (try with_reducible rfl)))
    try simp only [Act.put, List.getElem_toArray, List.getElem_cons_succ, List.getElem_cons_zero, List.setIfInBounds_toArray, List.set_cons_zero, List.set_cons_succ]
    refine wpAnyH_take (i := 4) (oi := _) (v := ?_) rfl (by kernel_rfl) (by kernel_rfl) (by kernel_rfl) (fun _ _ _ h => h) (Or.inl ⟨by rfl, ?_⟩) (by assumption) ?_
    (rotate_left); (focus (intro wv hSw; (obtain ⟨qP, qQ, qB⟩ := hSw); obtain ⟨_, _, _, _, _⟩ := blk2 qP; obtain ⟨_, _, _, _, _, _, _, _, _, _, _⟩ := blk5 qQ; go_simp; (try with_reducible rfl)))
    try simp only [Act.put, List.getElem_toArray, List.getElem_cons_succ, List.getElem_cons_zero, List.setIfInBounds_toArray, List.set_cons_zero, List.set_cons_succ]
    refine wpAnyH_take (i := 5) (oi := _) (v := ?_) rfl (by kernel_rfl) (by kernel_rfl) (by kernel_rfl) (fun _ _ _ h => h) (Or.inl ⟨by rfl, ?_⟩) (by assumption) ?_
    (rotate_left); (focus (intro wv hSw; (obtain ⟨qP, qQ, qB⟩ := hSw); obtain ⟨_, _, _, _, _⟩ := blk2 qP; obtain ⟨_, _, _, _, _, _, _, _, _, _, _⟩ := blk5 qQ; go_simp; (try with_reducible rfl)))
    try simp only [Act.put, List.getElem_toArray, List.getElem_cons_succ, List.getElem_cons_zero, List.setIfInBounds_toArray, List.set_cons_zero, List.set_cons_succ]
    refine wpAnyH_ready (rs := [1]) (by kernel_rfl) (by simp) ?_
    refine AllReadyH.cons (o := _) rfl (fun K hK => ?_) (AllReadyH.nil)
    go_simp
    (go_at_call 17; refine (toPlace_any _ _ _).mono ?_; rintro e x0c ⟨rfl, hw_0c⟩)
    refine hK.out _ _ ⟨blk_next hP_0 hw_0c, blk_next hQ_0 hw_0c, bel_next hB_0 hw_0c⟩ (fun hHeld => ?_)
    clear hK K
    try simp only [Act.put, List.getElem_toArray, List.getElem_cons_succ, List.getElem_cons_zero, List.setIfInBounds_toArray, List.set_cons_zero, List.set_cons_succ]
    obtain ⟨hP_0c, hQ_0c, hB_0c⟩ := id hHeld
    refine wpAnyH_ready (rs := [3]) (by kernel_rfl) (by simp) ?_
    refine AllReadyH.cons (o := _) rfl (fun K hK => ?_) (AllReadyH.nil)
    go_simp
    (go_at_call 18; refine (toBlock_any _ _ _ _ _ _).mono ?_; rintro e x0cc ⟨rfl, hw_0cc⟩)
    refine hK.out _ _ ⟨blk_next hP_0c hw_0cc, blk_next hQ_0c hw_0cc, bel_next hB_0c hw_0cc⟩ (fun hHeld => ?_)
    clear hK K
    try simp only [Act.put, List.getElem_toArray, List.getElem_cons_succ, List.getElem_cons_zero, List.setIfInBounds_toArray, List.set_cons_zero, List.set_cons_succ]
    obtain ⟨hP_0cc, hQ_0cc, hB_0cc⟩ := id hHeld
    refine wpAnyH_ready (rs := [6]) (by kernel_rfl) (by simp) ?_
    refine AllReadyH.cons (o := _) rfl (fun K hK => ?_) (AllReadyH.nil)
    go_simp
    (go_at_call 36; refine (iLU_f _ _ _ _ _ _ _ _ _ _ HV.out).mono ?_; rintro e x0ccc ⟨rfl, hw_0ccc⟩)
    refine hK.out _ _ ⟨blk_next hP_0cc hw_0ccc, blk_next hQ_0cc hw_0ccc, bel_next hB_0cc hw_0ccc⟩ (fun hHeld => ?_)
    clear hK K
    try simp only [Act.put, List.getElem_toArray, List.getElem_cons_succ, List.getElem_cons_zero, List.setIfInBounds_toArray, List.set_cons_zero, List.set_cons_succ]
    obtain ⟨hP_0ccc, hQ_0ccc, hB_0ccc⟩ := id hHeld
    refine wpAnyH_take (i := 7) (oi := _) (v := ?_) rfl (by kernel_rfl) (by kernel_rfl) (by kernel_rfl) (fun _ _ _ h => h) (Or.inl ⟨by rfl, ?_⟩) (by assumption) ?_
    (rotate_left); (focus (intro wv hSw; (obtain ⟨qP, qQ, qB⟩ := hSw); obtain ⟨_, _, _, _, _⟩ := blk2 qP; obtain ⟨_, _, _, _, _, _, _, _, _, _, _⟩ := blk5 qQ; go_simp; (try with_reducible rfl)))
    try simp only [Act.put, List.getElem_toArray, List.getElem_cons_succ, List.getElem_cons_zero, List.setIfInBounds_toArray, List.set_cons_zero, List.set_cons_succ]
    refine wpAnyH_done (by kernel_rfl) ?_ _
    go_wp2
    go_ret
    exact ⟨rfl, hB_0ccc⟩
  · have HV := Lib.hid hv
    clear hv
    go_enter Try.func9, Try.ntmps9
    go_wp2_with fail
    refine wp_region_held_drew (S := (fun w' => w'.heap[w.heap.size]? = some (.cells #[.int .i64 a0_0, .int .i64 a0_1] 30) ∧ w'.heap[w.heap.size + 1]? = some (.cells #[.int .i64 a1_0, .int .i64 a1_1, .int .i64 a1_2, .int .i64 a1_3, .int .i64 a1_4] 32) ∧ Below w.heap.size w w')) (by kernel_rfl) ⟨blk_old (blk_new w _) _, new2 w _ _, (bel2 w _ _).drew⟩ (fun hHeld => ?_)
    obtain ⟨hP_0, hQ_0, hB_0⟩ := id hHeld
    refine wpAnyH_take (i := 0) (oi := _) (v := ?_) rfl (by kernel_rfl) (by kernel_rfl) (by kernel_rfl) (fun _ _ _ h => h) (Or.inl ⟨by rfl, ?_⟩) (by assumption) ?_
    (rotate_left); (focus (intro wv hSw; (obtain ⟨qP, qQ, qB⟩ := hSw); obtain ⟨_, _, _, _, _⟩ := blk2 qP; obtain ⟨_, _, _, _, _, _, _, _, _, _, _⟩ := blk5 qQ; go_simp; (try with_reducible rfl)))
    try simp only [Act.put, List.getElem_toArray, List.getElem_cons_succ, List.getElem_cons_zero, List.setIfInBounds_toArray, List.set_cons_zero, List.set_cons_succ]
    refine wpAnyH_take (i := 2) (oi := _) (v := ?_) rfl (by kernel_rfl) (by kernel_rfl) (by kernel_rfl) (fun _ _ _ h => h) (Or.inl ⟨by rfl, ?_⟩) (by assumption) ?_
    (rotate_left); (focus (intro wv hSw; (obtain ⟨qP, qQ, qB⟩ := hSw); obtain ⟨_, _, _, _, _⟩ := blk2 qP; obtain ⟨_, _, _, _, _, _, _, _, _, _, _⟩ := blk5 qQ; go_simp; (try with_reducible rfl)))
    try simp only [Act.put, List.getElem_toArray, List.getElem_cons_succ, List.getElem_cons_zero, List.setIfInBounds_toArray, List.set_cons_zero, List.set_cons_succ]
    refine wpAnyH_take (i := 4) (oi := _) (v := ?_) rfl (by kernel_rfl) (by kernel_rfl) (by kernel_rfl) (fun _ _ _ h => h) (Or.inl ⟨by rfl, ?_⟩) (by assumption) ?_
    (rotate_left); (focus (intro wv hSw; (obtain ⟨qP, qQ, qB⟩ := hSw); obtain ⟨_, _, _, _, _⟩ := blk2 qP; obtain ⟨_, _, _, _, _, _, _, _, _, _, _⟩ := blk5 qQ; go_simp; (try with_reducible rfl)))
    try simp only [Act.put, List.getElem_toArray, List.getElem_cons_succ, List.getElem_cons_zero, List.setIfInBounds_toArray, List.set_cons_zero, List.set_cons_succ]
    refine wpAnyH_take (i := 5) (oi := _) (v := ?_) rfl (by kernel_rfl) (by kernel_rfl) (by kernel_rfl) (fun _ _ _ h => h) (Or.inl ⟨by rfl, ?_⟩) (by assumption) ?_
    (rotate_left); (focus (intro wv hSw; (obtain ⟨qP, qQ, qB⟩ := hSw); obtain ⟨_, _, _, _, _⟩ := blk2 qP; obtain ⟨_, _, _, _, _, _, _, _, _, _, _⟩ := blk5 qQ; go_simp; (try with_reducible rfl)))
    try simp only [Act.put, List.getElem_toArray, List.getElem_cons_succ, List.getElem_cons_zero, List.setIfInBounds_toArray, List.set_cons_zero, List.set_cons_succ]
    refine wpAnyH_ready (rs := [1]) (by kernel_rfl) (by simp) ?_
    refine AllReadyH.cons (o := _) rfl (fun K hK => ?_) (AllReadyH.nil)
    go_simp
    (go_at_call 17; refine (toPlace_any _ _ _).mono ?_; rintro e x0c ⟨rfl, hw_0c⟩)
    refine hK.out _ _ ⟨blk_next hP_0 hw_0c, blk_next hQ_0 hw_0c, bel_next hB_0 hw_0c⟩ (fun hHeld => ?_)
    clear hK K
    try simp only [Act.put, List.getElem_toArray, List.getElem_cons_succ, List.getElem_cons_zero, List.setIfInBounds_toArray, List.set_cons_zero, List.set_cons_succ]
    obtain ⟨hP_0c, hQ_0c, hB_0c⟩ := id hHeld
    refine wpAnyH_ready (rs := [3]) (by kernel_rfl) (by simp) ?_
    refine AllReadyH.cons (o := _) rfl (fun K hK => ?_) (AllReadyH.nil)
    go_simp
    (go_at_call 18; refine (toBlock_any _ _ _ _ _ _).mono ?_; rintro e x0cc ⟨rfl, hw_0cc⟩)
    refine hK.out _ _ ⟨blk_next hP_0c hw_0cc, blk_next hQ_0c hw_0cc, bel_next hB_0c hw_0cc⟩ (fun hHeld => ?_)
    clear hK K
    try simp only [Act.put, List.getElem_toArray, List.getElem_cons_succ, List.getElem_cons_zero, List.setIfInBounds_toArray, List.set_cons_zero, List.set_cons_succ]
    obtain ⟨hP_0cc, hQ_0cc, hB_0cc⟩ := id hHeld
    refine wpAnyH_ready (rs := [6]) (by kernel_rfl) (by simp) ?_
    refine AllReadyH.cons (o := _) rfl (fun K hK => ?_) (AllReadyH.nil)
    go_simp
    (go_at_call 35; refine (sLU_t _ _ _ _ _ _ _ _ _ _ HV.out).mono ?_; rintro e x0ccc ⟨m1, rfl, hm1, hw_0ccc⟩)
    refine hK.out _ _ ⟨blk_next hP_0cc hw_0ccc, blk_next hQ_0cc hw_0ccc, bel_next hB_0cc hw_0ccc⟩ (fun hHeld => ?_)
    clear hK K
    try simp only [Act.put, List.getElem_toArray, List.getElem_cons_succ, List.getElem_cons_zero, List.setIfInBounds_toArray, List.set_cons_zero, List.set_cons_succ]
    obtain ⟨hP_0ccc, hQ_0ccc, hB_0ccc⟩ := id hHeld
    refine wpAnyH_take (i := 7) (oi := _) (v := ?_) rfl (by kernel_rfl) (by kernel_rfl) (by kernel_rfl) (fun _ _ _ h => h) (Or.inl ⟨by rfl, ?_⟩) (by assumption) ?_
    (rotate_left); (focus (intro wv hSw; (obtain ⟨qP, qQ, qB⟩ := hSw); obtain ⟨_, _, _, _, _⟩ := blk2 qP; obtain ⟨_, _, _, _, _, _, _, _, _, _, _⟩ := blk5 qQ; go_simp; (try with_reducible rfl)))
    try simp only [Act.put, List.getElem_toArray, List.getElem_cons_succ, List.getElem_cons_zero, List.setIfInBounds_toArray, List.set_cons_zero, List.set_cons_succ]
    refine wpAnyH_done (by kernel_rfl) ?_ _
    have hP := hP_0ccc
    have hQ := hQ_0ccc
    have hB := hB_0ccc
    clear hP_0 hQ_0 hB_0 hP_0c hQ_0c hB_0c hP_0cc hQ_0cc hB_0cc hP_0ccc hQ_0ccc hB_0ccc
    go_wp2_with fail
    refine wp_region_held_drew (S := (fun w' => w'.heap[w.heap.size]? = some (.cells #[.int .i64 a0_0, .int .i64 a0_1] 30) ∧ w'.heap[w.heap.size + 1]? = some (.cells #[.int .i64 a1_0, .int .i64 a1_1, .int .i64 a1_2, .int .i64 a1_3, .int .i64 a1_4] 32) ∧ Below w.heap.size w w')) (by kernel_rfl) ⟨hP, hQ, hB.drew⟩ (fun hHeld => ?_)
    obtain ⟨hP_0, hQ_0, hB_0⟩ := id hHeld
    refine wpAnyH_take (i := 0) (oi := _) (v := ?_) rfl (by kernel_rfl) (by kernel_rfl) (by kernel_rfl) (fun _ _ _ h => h) (Or.inl ⟨by rfl, ?_⟩) (by assumption) ?_
    (rotate_left); (focus (intro wv hSw; (obtain ⟨qP, qQ, qB⟩ := hSw); obtain ⟨_, _, _, _, _⟩ := blk2 qP; obtain ⟨_, _, _, _, _, _, _, _, _, _, _⟩ := blk5 qQ; go_simp; (try with_reducible rfl)))
    try simp only [Act.put, List.getElem_toArray, List.getElem_cons_succ, List.getElem_cons_zero, List.setIfInBounds_toArray, List.set_cons_zero, List.set_cons_succ]
    refine wpAnyH_take (i := 2) (oi := _) (v := ?_) rfl (by kernel_rfl) (by kernel_rfl) (by kernel_rfl) (fun _ _ _ h => h) (Or.inl ⟨by rfl, ?_⟩) (by assumption) ?_
    (rotate_left); (focus (intro wv hSw; (obtain ⟨qP, qQ, qB⟩ := hSw); obtain ⟨_, _, _, _, _⟩ := blk2 qP; obtain ⟨_, _, _, _, _, _, _, _, _, _, _⟩ := blk5 qQ; go_simp; (try with_reducible rfl)))
    try simp only [Act.put, List.getElem_toArray, List.getElem_cons_succ, List.getElem_cons_zero, List.setIfInBounds_toArray, List.set_cons_zero, List.set_cons_succ]
    refine wpAnyH_take (i := 4) (oi := _) (v := ?_) rfl (by kernel_rfl) (by kernel_rfl) (by kernel_rfl) (fun _ _ _ h => h) (Or.inl ⟨by rfl, ?_⟩) (by assumption) ?_
    (rotate_left); (focus (intro wv hSw; (obtain ⟨qP, qQ, qB⟩ := hSw); obtain ⟨_, _, _, _, _⟩ := blk2 qP; obtain ⟨_, _, _, _, _, _, _, _, _, _, _⟩ := blk5 qQ; go_simp; (try with_reducible rfl)))
    try simp only [Act.put, List.getElem_toArray, List.getElem_cons_succ, List.getElem_cons_zero, List.setIfInBounds_toArray, List.set_cons_zero, List.set_cons_succ]
    refine wpAnyH_take (i := 5) (oi := _) (v := ?_) rfl (by kernel_rfl) (by kernel_rfl) (by kernel_rfl) (fun _ _ _ h => h) (Or.inl ⟨by rfl, ?_⟩) (by assumption) ?_
    (rotate_left); (focus (intro wv hSw; (obtain ⟨qP, qQ, qB⟩ := hSw); obtain ⟨_, _, _, _, _⟩ := blk2 qP; obtain ⟨_, _, _, _, _, _, _, _, _, _, _⟩ := blk5 qQ; go_simp; (try with_reducible rfl)))
    try simp only [Act.put, List.getElem_toArray, List.getElem_cons_succ, List.getElem_cons_zero, List.setIfInBounds_toArray, List.set_cons_zero, List.set_cons_succ]
    refine wpAnyH_ready (rs := [1]) (by kernel_rfl) (by simp) ?_
    refine AllReadyH.cons (o := _) rfl (fun K hK => ?_) (AllReadyH.nil)
    go_simp
    (go_at_call 17; refine (toPlace_any _ _ _).mono ?_; rintro e x0c ⟨rfl, hw_0c⟩)
    refine hK.out _ _ ⟨blk_next hP_0 hw_0c, blk_next hQ_0 hw_0c, bel_next hB_0 hw_0c⟩ (fun hHeld => ?_)
    clear hK K
    try simp only [Act.put, List.getElem_toArray, List.getElem_cons_succ, List.getElem_cons_zero, List.setIfInBounds_toArray, List.set_cons_zero, List.set_cons_succ]
    obtain ⟨hP_0c, hQ_0c, hB_0c⟩ := id hHeld
    refine wpAnyH_ready (rs := [3]) (by kernel_rfl) (by simp) ?_
    refine AllReadyH.cons (o := _) rfl (fun K hK => ?_) (AllReadyH.nil)
    go_simp
    (go_at_call 18; refine (toBlock_any _ _ _ _ _ _).mono ?_; rintro e x0cc ⟨rfl, hw_0cc⟩)
    refine hK.out _ _ ⟨blk_next hP_0c hw_0cc, blk_next hQ_0c hw_0cc, bel_next hB_0c hw_0cc⟩ (fun hHeld => ?_)
    clear hK K
    try simp only [Act.put, List.getElem_toArray, List.getElem_cons_succ, List.getElem_cons_zero, List.setIfInBounds_toArray, List.set_cons_zero, List.set_cons_succ]
    obtain ⟨hP_0cc, hQ_0cc, hB_0cc⟩ := id hHeld
    refine wpAnyH_ready (rs := [6]) (by kernel_rfl) (by simp) ?_
    refine AllReadyH.cons (o := _) rfl (fun K hK => ?_) (AllReadyH.nil)
    go_simp
    (go_at_call 36; refine (iLU_t _ _ _ _ _ _ _ _ _ _ HV.out).mono ?_; rintro e x0ccc ⟨m2, rfl, hm2, hw_0ccc⟩)
    refine hK.out _ _ ⟨blk_next hP_0cc hw_0ccc, blk_next hQ_0cc hw_0ccc, bel_next hB_0cc hw_0ccc⟩ (fun hHeld => ?_)
    clear hK K
    try simp only [Act.put, List.getElem_toArray, List.getElem_cons_succ, List.getElem_cons_zero, List.setIfInBounds_toArray, List.set_cons_zero, List.set_cons_succ]
    obtain ⟨hP_0ccc, hQ_0ccc, hB_0ccc⟩ := id hHeld
    obtain rfl := hm1.unique hm2
    clear hm1 hm2
    refine wpAnyH_take (i := 7) (oi := _) (v := ?_) rfl (by kernel_rfl) (by kernel_rfl) (by kernel_rfl) (fun _ _ _ h => h) (Or.inl ⟨by rfl, ?_⟩) (by assumption) ?_
    (rotate_left); (focus (intro wv hSw; (obtain ⟨qP, qQ, qB⟩ := hSw); obtain ⟨_, _, _, _, _⟩ := blk2 qP; obtain ⟨_, _, _, _, _, _, _, _, _, _, _⟩ := blk5 qQ; go_simp; (try with_reducible rfl)))
    try simp only [Act.put, List.getElem_toArray, List.getElem_cons_succ, List.getElem_cons_zero, List.setIfInBounds_toArray, List.set_cons_zero, List.set_cons_succ]
    refine wpAnyH_done (by kernel_rfl) ?_ _
    go_wp2
    go_ret
    exact ⟨rfl, hB_0ccc⟩

set_option maxRecDepth 100000 in
theorem lifted (os : Os) (started : os.Started) (H : Type) (enc : TypeId × Value → H) :
    ReturnsInHanded {} Try.checked os 9 .any (Rows.fnExactLowestUpSpec.pre6 enc Try.prog Try.f9 Rows.fnExactLowestUpRow.domain false) (Rows.fnExactLowestUpSpec.post enc Try.prog Try.f9 false true false false) := by
  refine returnsInHanded_of_change (C := Try.checked) own started (by kernel_rfl) Try.func9
    (ChangeSpec.witness6 (enc := enc) (C := Try.checked) false ⟨#[], #[.agg #[.int .i64 0, .int .i64 0], .agg #[.int .i64 0, .int .i64 0, .int .i64 0, .int .i64 0, .int .i64 0], .int .i64 0, .int .i64 0], []⟩ 8 (by kernel_rfl) (by kernel_rfl) (by kernel_rfl) (by kernel_rfl)) ?_
  intro W base args ds gs before hval0 hW hcnd _
  have hval : ∀ (j : Nat) t v, Try.f9.params[j]? = some t → args[j]? = some v → Value.okWide Try.prog W .any base t v := hval0
  have hW' := hW
  obtain ⟨p, q, hA0, hV, rfl, hfz, hnd⟩ := hW
  have hA : DataW.TrodAll enc Try.prog W 0 (fun _ => true) true Try.f9.params.toList args.toList ds p := hA0
  rw [Try.params9] at hA hval
  obtain ⟨v0, vs0, d0, ds0, p0, q0, hargs, rfl, rfl, h0, r0⟩ := trodAll_cons hA
  obtain ⟨v1, vs1, d1, ds1, p1, q1, rfl, rfl, rfl, h1, r1⟩ := trodAll_cons r0
  obtain ⟨v2, vs2, d2, ds2, p2, q2, rfl, rfl, rfl, h2, r2⟩ := trodAll_cons r1
  obtain ⟨v3, vs3, d3, ds3, p3, q3, rfl, rfl, rfl, h3, r3⟩ := trodAll_cons r2
  obtain ⟨rfl, rfl, rfl⟩ := trodAll_nil r3
  obtain rfl : args = #[v0, v1, v2, v3] := by cases args; simp_all
  obtain ⟨rfl, rfl⟩ := trodVars_none hV
  have k0 := h0
  have lt0 : ∀ x ∈ p0, x.block < W.heap.size := by obtain ⟨m, hm⟩ := k0; exact DataW.trod_lt m _ _ _ hm
  have k1 := h1
  have lt1 : ∀ x ∈ p1, x.block < W.heap.size := by obtain ⟨m, hm⟩ := k1; exact DataW.trod_lt m _ _ _ hm
  have k2 := h2
  have lt2 : ∀ x ∈ p2, x.block < W.heap.size := by obtain ⟨m, hm⟩ := k2; exact DataW.trod_lt m _ _ _ hm
  have k3 := h3
  have lt3 : ∀ x ∈ p3, x.block < W.heap.size := by obtain ⟨m, hm⟩ := k3; exact DataW.trod_lt m _ _ _ hm
  obtain ⟨⟨a0_0, a0_1⟩, rfl, q0⟩ := openPlace (hval 0 30 v0 rfl rfl) h0
  obtain ⟨⟨a1_0, a1_1, a1_2, a1_3, a1_4⟩, rfl, q1⟩ := openBlock (hval 1 32 v1 rfl rfl) h1
  obtain ⟨a2, rfl, rfl, rfl, w2⟩ := open_int Try.underlying3 (hval 2 3 v2 rfl rfl) h2
  obtain ⟨a3, rfl, rfl, rfl, w3⟩ := open_int Try.underlying3 (hval 3 3 v3 rfl rfl) h3
  clear hA0 hval0
  refine (walk a0_0 a0_1 q0 a1_0 a1_1 a1_2 a1_3 a1_4 q1 a2 w2 a3 w3 W).mono fun e W' ⟨he, bel⟩ => ?_
  subst he
  exact ⟨_, rfl, _, _, _, [], _, [], hW', trodAll_mk1 (shut_bool Try.underlying4 _), (trodAll_cons_mk (Below.trod laidOut (by kernel_rfl) (of_decide_eq_true (by kernel_rfl)) k0 bel lt0) (trodAll_cons_mk (Below.trod laidOut (by kernel_rfl) (of_decide_eq_true (by kernel_rfl)) k1 bel lt1) (trodAll_cons_mk (Below.trod laidOut (by kernel_rfl) (of_decide_eq_true (by kernel_rfl)) k2 bel lt2) (trodAll_cons_mk (Below.trod laidOut (by kernel_rfl) (of_decide_eq_true (by kernel_rfl)) k3 bel lt3) trodAll_mk0)))), rfl, bel.frame _, fun h => by cases h⟩

theorem over : Rows.fnExactLowestUpRow.holds Try.pinned (OpenSpec.ofChange Rows.fnExactLowestUpSpec) :=
  OpenClaim.holds_of_wide 9 Try.f9 rfl rfl rfl rfl rfl rfl rfl ⟨rfl, rfl, rfl, rfl, rfl⟩ rfl rfl rfl rfl rfl (by kernel_rfl) Try.func9 (by kernel_rfl)
    (of_decide_eq_true (by kernel_rfl)) (by unfold Func.isWrapper; first | (rw [if_pos (by decide +kernel)]; kernel_rfl) | (rw [if_neg (by decide +kernel)]; exact ⟨rfl, rfl⟩))
    (fun os started H enc _ => lifted os started H enc)

/-- The statement. -/
theorem proved : Rows.FnExactLowestUpSaid :=
  over
#print axioms proved
end Go.Proofs.Ytdmfipgmlplkiaa.fnExactLowestUp
