/- FnExactPauseStep: whatever the input, the law returns true, and its arguments read as they did. No conditions beyond those of the statement's row. -/
import Derived.Test.YtecliamihggpoaaBp
import Derived.Test.YtecliamihggpoaaGBlind
import Derived.Test.YtecliamihggpoaaGBand
namespace Go.Proofs.Ytecliamihggpoaa.fnExactPauseStep
open Go.Proofs.Ytecliamihggpoaa
open Go.ChangeShapes Go.WideShapes Go.ChangeAt Go.RowKit Go.Joins
set_option linter.unusedVariables false
set_option linter.unusedSimpArgs false
set_option linter.unnecessarySimpa false

theorem own : ownKnob Try.prog.godebug = none := by kernel_rfl
theorem laidOut : laidOutB Try.prog = true := by kernel_rfl

set_option maxRecDepth 100000 in
set_option maxHeartbeats 4000000 in
theorem walk (a0_0 : Bool) (a0_1 : Int) (q0 : True ∧ Wf a0_1) (a1_0 : Int) (a1_1 : Int) (q1 : Wf a1_0 ∧ Wf a1_1) (a2 : Int) (w2 : (Lit.int .i64 a2).wf = true) (a3 : Int) (w3 : (Lit.int .i64 a3).wf = true) (w : World) :
    Calls Try.prog 10 #[.agg #[.bool a0_0, .int .i64 a0_1], .agg #[.int .i64 a1_0, .int .i64 a1_1], .int .i64 a2, .int .i64 a3] w fun e w' => e = .returned (.bool true) ∧ Below w.heap.size w w' := by
  obtain ⟨r, hr⟩ : ∃ r, pqS a0_0 a0_1 a1_0 a1_1 a2 a3 = r := ⟨_, rfl⟩
  obtain ⟨u, hu⟩ : ∃ u, pqT a0_0 a0_1 a1_0 a1_1 a2 a3 = u := ⟨_, rfl⟩
  have HR := Lib.hid hr
  have HU := Lib.hid hu
  clear hr hu q0 q1
  go_enter Try.func10, Try.ntmps10
  go_upto_region 1 with fail
  go_cut [9] (fun s9 wx => ∃ C : Nat, s9 = .pointer (some ⟨C, 0, none⟩) ∧ w.heap.size ≤ C ∧ wx.heap[C]? = some (.cells #[.bool r, .int .i64 u] 47) ∧ wx.heap[w.heap.size]? = some (.cells #[.bool a0_0, .int .i64 a0_1] 45) ∧ wx.heap[w.heap.size + 1]? = some (.cells #[.int .i64 a1_0, .int .i64 a1_1] 23) ∧ Below w.heap.size w wx)
  case first =>
    refine wp_region_held_drew (S := (fun w' => w'.heap[w.heap.size]? = some (.cells #[.bool a0_0, .int .i64 a0_1] 45) ∧ w'.heap[w.heap.size + 1]? = some (.cells #[.int .i64 a1_0, .int .i64 a1_1] 23) ∧ Below w.heap.size w w')) (by kernel_rfl) ⟨blk_old (blk_new w _) _, new2 w _ _, (bel2 w _ _).drew⟩ (fun hHeld => ?_)
    obtain ⟨hP_0, hQ_0, hB_0⟩ := id hHeld
    refine wpAnyH_take (i := 0) (oi := _) (v := ?_) rfl (by kernel_rfl) (by kernel_rfl) (by kernel_rfl) (fun _ _ _ h => h) (Or.inl ⟨by rfl, ?_⟩) (by assumption) ?_
    (rotate_left); (focus (intro wv hSw; (obtain ⟨qP, qQ, qB⟩ := hSw); obtain ⟨_, _, _, _, _⟩ := blk2 qP; obtain ⟨_, _, _, _, _⟩ := blk2 qQ; go_simp; (try with_reducible rfl)))
    try simp only [Act.put, List.getElem_toArray, List.getElem_cons_succ, List.getElem_cons_zero, List.setIfInBounds_toArray, List.set_cons_zero, List.set_cons_succ]
    refine wpAnyH_take (i := 2) (oi := _) (v := ?_) rfl (by kernel_rfl) (by kernel_rfl) (by kernel_rfl) (fun _ _ _ h => h) (Or.inl ⟨by rfl, ?_⟩) (by assumption) ?_
    (rotate_left); (focus (intro wv hSw; (obtain ⟨qP, qQ, qB⟩ := hSw); obtain ⟨_, _, _, _, _⟩ := blk2 qP; obtain ⟨_, _, _, _, _⟩ := blk2 qQ; go_simp; (try with_reducible rfl)))
    try simp only [Act.put, List.getElem_toArray, List.getElem_cons_succ, List.getElem_cons_zero, List.setIfInBounds_toArray, List.set_cons_zero, List.set_cons_succ]
    refine wpAnyH_take (i := 4) (oi := _) (v := ?_) rfl (by kernel_rfl) (by kernel_rfl) (by kernel_rfl) (fun _ _ _ h => h) (Or.inl ⟨by rfl, ?_⟩) (by assumption) ?_
    (rotate_left); (focus (intro wv hSw; (obtain ⟨qP, qQ, qB⟩ := hSw); obtain ⟨_, _, _, _, _⟩ := blk2 qP; obtain ⟨_, _, _, _, _⟩ := blk2 qQ; go_simp; (try with_reducible rfl)))
    try simp only [Act.put, List.getElem_toArray, List.getElem_cons_succ, List.getElem_cons_zero, List.setIfInBounds_toArray, List.set_cons_zero, List.set_cons_succ]
    refine wpAnyH_take (i := 5) (oi := _) (v := ?_) rfl (by kernel_rfl) (by kernel_rfl) (by kernel_rfl) (fun _ _ _ h => h) (Or.inl ⟨by rfl, ?_⟩) (by assumption) ?_
    (rotate_left); (focus (intro wv hSw; (obtain ⟨qP, qQ, qB⟩ := hSw); obtain ⟨_, _, _, _, _⟩ := blk2 qP; obtain ⟨_, _, _, _, _⟩ := blk2 qQ; go_simp; (try with_reducible rfl)))
    try simp only [Act.put, List.getElem_toArray, List.getElem_cons_succ, List.getElem_cons_zero, List.setIfInBounds_toArray, List.set_cons_zero, List.set_cons_succ]
    refine wpAnyH_ready (rs := [1, 7]) (by kernel_rfl) (by simp) ?_
    refine AllReadyH.cons (o := _) rfl (fun K hK => ?_) (AllReadyH.cons (o := _) rfl (fun K hK => ?_) (AllReadyH.nil))
    · go_simp
      (go_at_call 33; refine (toBlind_any _ _ _).mono ?_; rintro e x0c ⟨rfl, hw_0c⟩)
      refine hK.out _ _ ⟨blk_next hP_0 hw_0c, blk_next hQ_0 hw_0c, bel_next hB_0 hw_0c⟩ (fun hHeld => ?_)
      clear hK K
      try simp only [Act.put, List.getElem_toArray, List.getElem_cons_succ, List.getElem_cons_zero, List.setIfInBounds_toArray, List.set_cons_zero, List.set_cons_succ]
      obtain ⟨hP_0c, hQ_0c, hB_0c⟩ := id hHeld
      refine wpAnyH_ready (rs := [3, 7]) (by kernel_rfl) (by simp) ?_
      refine AllReadyH.cons (o := _) rfl (fun K hK => ?_) (AllReadyH.cons (o := _) rfl (fun K hK => ?_) (AllReadyH.nil))
      · go_simp
        (go_at_call 13; refine (toBand_any _ _ _).mono ?_; rintro e x0cc ⟨rfl, hw_0cc⟩)
        refine hK.out _ _ ⟨blk_next hP_0c hw_0cc, blk_next hQ_0c hw_0cc, bel_next hB_0c hw_0cc⟩ (fun hHeld => ?_)
        clear hK K
        try simp only [Act.put, List.getElem_toArray, List.getElem_cons_succ, List.getElem_cons_zero, List.setIfInBounds_toArray, List.set_cons_zero, List.set_cons_succ]
        obtain ⟨hP_0cc, hQ_0cc, hB_0cc⟩ := id hHeld
        refine wpAnyH_ready (rs := [6, 7]) (by kernel_rfl) (by simp) ?_
        refine AllReadyH.cons (o := _) rfl (fun K hK => ?_) (AllReadyH.cons (o := _) rfl (fun K hK => ?_) (AllReadyH.nil))
        · go_simp
          (go_at_call 35; refine (sPs_is _ HR.out HU.out).mono ?_; rintro e x0ccc ⟨rfl, hw_0ccc⟩)
          refine hK.out _ _ ⟨blk_next hP_0cc hw_0ccc, blk_next hQ_0cc hw_0ccc, bel_next hB_0cc hw_0ccc⟩ (fun hHeld => ?_)
          clear hK K
          try simp only [Act.put, List.getElem_toArray, List.getElem_cons_succ, List.getElem_cons_zero, List.setIfInBounds_toArray, List.set_cons_zero, List.set_cons_succ]
          obtain ⟨hP_0ccc, hQ_0ccc, hB_0ccc⟩ := id hHeld
          refine wpAnyH_ready (rs := [7]) (by kernel_rfl) (by simp) ?_
          refine AllReadyH.cons (o := _) rfl (fun K hK => ?_) (AllReadyH.nil)
          go_simp
          refine hK.out _ _ ⟨blk_old hP_0ccc _, blk_old hQ_0ccc _, hB_0ccc.alloc (by have := hB_0ccc.size; omega) _⟩ (fun hHeld => ?_)
          clear hK K
          try simp only [Act.put, List.getElem_toArray, List.getElem_cons_succ, List.getElem_cons_zero, List.setIfInBounds_toArray, List.set_cons_zero, List.set_cons_succ]
          obtain ⟨hP_0ccca, hQ_0ccca, hB_0ccca⟩ := id hHeld
          have hA_0ccca : (x0ccc.alloc (.cells #[.bool false, .int .i64 0] 47)).heap[x0ccc.heap.size]? = some (.cells #[.bool false, .int .i64 0] 47) := by have := blk_new (x0ccc) (.cells #[.bool false, .int .i64 0] 47); simpa using this
          have zAP_0ccca : w.heap.size < x0ccc.heap.size := by have := blk_lt hP_0ccc; simpa using this
          have zAQ_0ccca : w.heap.size + 1 < x0ccc.heap.size := by have := blk_lt hQ_0ccc; simpa using this
          have zAB_0ccca : w.heap.size ≤ x0ccc.heap.size := by have := hB_0ccc.size; simpa using this
          refine wpAnyH_ready (rs := [8]) (by kernel_rfl) (by simp) ?_
          refine AllReadyH.cons (o := _) rfl (fun K hK => ?_) (AllReadyH.nil)
          obtain ⟨sc0_0cccac, sc1_0cccac, sf0_0cccac, sf1_0cccac, sz_0cccac⟩ := blk2 hA_0ccca
          go_simp
          refine hK.out _ _ ⟨blk_old hP_0ccc _, blk_old hQ_0ccc _, hB_0ccc.alloc (by have := hB_0ccc.size; omega) _⟩ (fun hHeld => ?_)
          clear hK K
          try simp only [Act.put, List.getElem_toArray, List.getElem_cons_succ, List.getElem_cons_zero, List.setIfInBounds_toArray, List.set_cons_zero, List.set_cons_succ]
          obtain ⟨hP_0cccac, hQ_0cccac, hB_0cccac⟩ := id hHeld
          have hA_0cccac : (x0ccc.alloc (.cells #[.bool r, .int .i64 u] 47)).heap[x0ccc.heap.size]? = some (.cells #[.bool r, .int .i64 u] 47) := by have := blk_new (x0ccc) (.cells #[.bool r, .int .i64 u] 47); simpa using this
          refine wpAnyH_done (by kernel_rfl) ?_ _
          go_wp2_with fail
          go_meet
          exact ⟨_, rfl, zAB_0ccca, hA_0cccac, hP_0cccac, hQ_0cccac, hB_0cccac⟩
        · go_simp
          refine hK.out _ _ ⟨blk_old hP_0cc _, blk_old hQ_0cc _, hB_0cc.alloc (by have := hB_0cc.size; omega) _⟩ (fun hHeld => ?_)
          clear hK K
          try simp only [Act.put, List.getElem_toArray, List.getElem_cons_succ, List.getElem_cons_zero, List.setIfInBounds_toArray, List.set_cons_zero, List.set_cons_succ]
          obtain ⟨hP_0cca, hQ_0cca, hB_0cca⟩ := id hHeld
          have hA_0cca : (x0cc.alloc (.cells #[.bool false, .int .i64 0] 47)).heap[x0cc.heap.size]? = some (.cells #[.bool false, .int .i64 0] 47) := by have := blk_new (x0cc) (.cells #[.bool false, .int .i64 0] 47); simpa using this
          have zAP_0cca : w.heap.size < x0cc.heap.size := by have := blk_lt hP_0cc; simpa using this
          have zAQ_0cca : w.heap.size + 1 < x0cc.heap.size := by have := blk_lt hQ_0cc; simpa using this
          have zAB_0cca : w.heap.size ≤ x0cc.heap.size := by have := hB_0cc.size; simpa using this
          refine wpAnyH_ready (rs := [6]) (by kernel_rfl) (by simp) ?_
          refine AllReadyH.cons (o := _) rfl (fun K hK => ?_) (AllReadyH.nil)
          go_simp
          (go_at_call 35; refine (sPs_is _ HR.out HU.out).mono ?_; rintro e x0ccac ⟨rfl, hw_0ccac⟩)
          refine hK.out _ _ ⟨blk_next hP_0cca hw_0ccac, blk_next hQ_0cca hw_0ccac, bel_next hB_0cca hw_0ccac⟩ (fun hHeld => ?_)
          clear hK K
          try simp only [Act.put, List.getElem_toArray, List.getElem_cons_succ, List.getElem_cons_zero, List.setIfInBounds_toArray, List.set_cons_zero, List.set_cons_succ]
          obtain ⟨hP_0ccac, hQ_0ccac, hB_0ccac⟩ := id hHeld
          have hA_0ccac := blk_next hA_0cca hw_0ccac
          refine wpAnyH_ready (rs := [8]) (by kernel_rfl) (by simp) ?_
          refine AllReadyH.cons (o := _) rfl (fun K hK => ?_) (AllReadyH.nil)
          obtain ⟨sc0_0ccacc, sc1_0ccacc, sf0_0ccacc, sf1_0ccacc, sz_0ccacc⟩ := blk2 hA_0ccac
          go_simp
          refine hK.out _ _ ⟨blk_store2 hP_0ccac (Nat.ne_of_lt zAP_0cca) _ _, blk_store2 hQ_0ccac (Nat.ne_of_lt zAQ_0cca) _ _, store2_bel hB_0ccac zAB_0cca _ _⟩ (fun hHeld => ?_)
          clear hK K
          try simp only [Act.put, List.getElem_toArray, List.getElem_cons_succ, List.getElem_cons_zero, List.setIfInBounds_toArray, List.set_cons_zero, List.set_cons_succ]
          obtain ⟨hP_0ccacc, hQ_0ccacc, hB_0ccacc⟩ := id hHeld
          have hA_0ccacc := blk2_set (a := .bool r) (b := .int .i64 u) hA_0ccac
          refine wpAnyH_done (by kernel_rfl) ?_ _
          go_wp2_with fail
          go_meet
          exact ⟨_, rfl, zAB_0cca, hA_0ccacc, hP_0ccacc, hQ_0ccacc, hB_0ccacc⟩
      · go_simp
        refine hK.out _ _ ⟨blk_old hP_0c _, blk_old hQ_0c _, hB_0c.alloc (by have := hB_0c.size; omega) _⟩ (fun hHeld => ?_)
        clear hK K
        try simp only [Act.put, List.getElem_toArray, List.getElem_cons_succ, List.getElem_cons_zero, List.setIfInBounds_toArray, List.set_cons_zero, List.set_cons_succ]
        obtain ⟨hP_0ca, hQ_0ca, hB_0ca⟩ := id hHeld
        have hA_0ca : (x0c.alloc (.cells #[.bool false, .int .i64 0] 47)).heap[x0c.heap.size]? = some (.cells #[.bool false, .int .i64 0] 47) := by have := blk_new (x0c) (.cells #[.bool false, .int .i64 0] 47); simpa using this
        have zAP_0ca : w.heap.size < x0c.heap.size := by have := blk_lt hP_0c; simpa using this
        have zAQ_0ca : w.heap.size + 1 < x0c.heap.size := by have := blk_lt hQ_0c; simpa using this
        have zAB_0ca : w.heap.size ≤ x0c.heap.size := by have := hB_0c.size; simpa using this
        refine wpAnyH_ready (rs := [3]) (by kernel_rfl) (by simp) ?_
        refine AllReadyH.cons (o := _) rfl (fun K hK => ?_) (AllReadyH.nil)
        go_simp
        (go_at_call 13; refine (toBand_any _ _ _).mono ?_; rintro e x0cac ⟨rfl, hw_0cac⟩)
        refine hK.out _ _ ⟨blk_next hP_0ca hw_0cac, blk_next hQ_0ca hw_0cac, bel_next hB_0ca hw_0cac⟩ (fun hHeld => ?_)
        clear hK K
        try simp only [Act.put, List.getElem_toArray, List.getElem_cons_succ, List.getElem_cons_zero, List.setIfInBounds_toArray, List.set_cons_zero, List.set_cons_succ]
        obtain ⟨hP_0cac, hQ_0cac, hB_0cac⟩ := id hHeld
        have hA_0cac := blk_next hA_0ca hw_0cac
        refine wpAnyH_ready (rs := [6]) (by kernel_rfl) (by simp) ?_
        refine AllReadyH.cons (o := _) rfl (fun K hK => ?_) (AllReadyH.nil)
        go_simp
        (go_at_call 35; refine (sPs_is _ HR.out HU.out).mono ?_; rintro e x0cacc ⟨rfl, hw_0cacc⟩)
        refine hK.out _ _ ⟨blk_next hP_0cac hw_0cacc, blk_next hQ_0cac hw_0cacc, bel_next hB_0cac hw_0cacc⟩ (fun hHeld => ?_)
        clear hK K
        try simp only [Act.put, List.getElem_toArray, List.getElem_cons_succ, List.getElem_cons_zero, List.setIfInBounds_toArray, List.set_cons_zero, List.set_cons_succ]
        obtain ⟨hP_0cacc, hQ_0cacc, hB_0cacc⟩ := id hHeld
        have hA_0cacc := blk_next hA_0cac hw_0cacc
        refine wpAnyH_ready (rs := [8]) (by kernel_rfl) (by simp) ?_
        refine AllReadyH.cons (o := _) rfl (fun K hK => ?_) (AllReadyH.nil)
        obtain ⟨sc0_0caccc, sc1_0caccc, sf0_0caccc, sf1_0caccc, sz_0caccc⟩ := blk2 hA_0cacc
        go_simp
        refine hK.out _ _ ⟨blk_store2 hP_0cacc (Nat.ne_of_lt zAP_0ca) _ _, blk_store2 hQ_0cacc (Nat.ne_of_lt zAQ_0ca) _ _, store2_bel hB_0cacc zAB_0ca _ _⟩ (fun hHeld => ?_)
        clear hK K
        try simp only [Act.put, List.getElem_toArray, List.getElem_cons_succ, List.getElem_cons_zero, List.setIfInBounds_toArray, List.set_cons_zero, List.set_cons_succ]
        obtain ⟨hP_0caccc, hQ_0caccc, hB_0caccc⟩ := id hHeld
        have hA_0caccc := blk2_set (a := .bool r) (b := .int .i64 u) hA_0cacc
        refine wpAnyH_done (by kernel_rfl) ?_ _
        go_wp2_with fail
        go_meet
        exact ⟨_, rfl, zAB_0ca, hA_0caccc, hP_0caccc, hQ_0caccc, hB_0caccc⟩
    · go_simp
      refine hK.out _ _ ⟨blk_old hP_0 _, blk_old hQ_0 _, hB_0.alloc (by have := hB_0.size; omega) _⟩ (fun hHeld => ?_)
      clear hK K
      try simp only [Act.put, List.getElem_toArray, List.getElem_cons_succ, List.getElem_cons_zero, List.setIfInBounds_toArray, List.set_cons_zero, List.set_cons_succ]
      obtain ⟨hP_0a, hQ_0a, hB_0a⟩ := id hHeld
      have hA_0a : (((w.alloc (.cells #[.bool a0_0, .int .i64 a0_1] 45)).alloc (.cells #[.int .i64 a1_0, .int .i64 a1_1] 23)).drew.alloc (.cells #[.bool false, .int .i64 0] 47)).heap[w.heap.size + 1 + 1]? = some (.cells #[.bool false, .int .i64 0] 47) := by have := blk_new (((w.alloc (.cells #[.bool a0_0, .int .i64 a0_1] 45)).alloc (.cells #[.int .i64 a1_0, .int .i64 a1_1] 23)).drew) (.cells #[.bool false, .int .i64 0] 47); simpa using this
      have zAP_0a : w.heap.size < w.heap.size + 1 + 1 := by have := blk_lt hP_0; simpa using this
      have zAQ_0a : w.heap.size + 1 < w.heap.size + 1 + 1 := by have := blk_lt hQ_0; simpa using this
      have zAB_0a : w.heap.size ≤ w.heap.size + 1 + 1 := by have := hB_0.size; simpa using this
      refine wpAnyH_ready (rs := [1]) (by kernel_rfl) (by simp) ?_
      refine AllReadyH.cons (o := _) rfl (fun K hK => ?_) (AllReadyH.nil)
      go_simp
      (go_at_call 33; refine (toBlind_any _ _ _).mono ?_; rintro e x0ac ⟨rfl, hw_0ac⟩)
      refine hK.out _ _ ⟨blk_next hP_0a hw_0ac, blk_next hQ_0a hw_0ac, bel_next hB_0a hw_0ac⟩ (fun hHeld => ?_)
      clear hK K
      try simp only [Act.put, List.getElem_toArray, List.getElem_cons_succ, List.getElem_cons_zero, List.setIfInBounds_toArray, List.set_cons_zero, List.set_cons_succ]
      obtain ⟨hP_0ac, hQ_0ac, hB_0ac⟩ := id hHeld
      have hA_0ac := blk_next hA_0a hw_0ac
      refine wpAnyH_ready (rs := [3]) (by kernel_rfl) (by simp) ?_
      refine AllReadyH.cons (o := _) rfl (fun K hK => ?_) (AllReadyH.nil)
      go_simp
      (go_at_call 13; refine (toBand_any _ _ _).mono ?_; rintro e x0acc ⟨rfl, hw_0acc⟩)
      refine hK.out _ _ ⟨blk_next hP_0ac hw_0acc, blk_next hQ_0ac hw_0acc, bel_next hB_0ac hw_0acc⟩ (fun hHeld => ?_)
      clear hK K
      try simp only [Act.put, List.getElem_toArray, List.getElem_cons_succ, List.getElem_cons_zero, List.setIfInBounds_toArray, List.set_cons_zero, List.set_cons_succ]
      obtain ⟨hP_0acc, hQ_0acc, hB_0acc⟩ := id hHeld
      have hA_0acc := blk_next hA_0ac hw_0acc
      refine wpAnyH_ready (rs := [6]) (by kernel_rfl) (by simp) ?_
      refine AllReadyH.cons (o := _) rfl (fun K hK => ?_) (AllReadyH.nil)
      go_simp
      (go_at_call 35; refine (sPs_is _ HR.out HU.out).mono ?_; rintro e x0accc ⟨rfl, hw_0accc⟩)
      refine hK.out _ _ ⟨blk_next hP_0acc hw_0accc, blk_next hQ_0acc hw_0accc, bel_next hB_0acc hw_0accc⟩ (fun hHeld => ?_)
      clear hK K
      try simp only [Act.put, List.getElem_toArray, List.getElem_cons_succ, List.getElem_cons_zero, List.setIfInBounds_toArray, List.set_cons_zero, List.set_cons_succ]
      obtain ⟨hP_0accc, hQ_0accc, hB_0accc⟩ := id hHeld
      have hA_0accc := blk_next hA_0acc hw_0accc
      refine wpAnyH_ready (rs := [8]) (by kernel_rfl) (by simp) ?_
      refine AllReadyH.cons (o := _) rfl (fun K hK => ?_) (AllReadyH.nil)
      obtain ⟨sc0_0acccc, sc1_0acccc, sf0_0acccc, sf1_0acccc, sz_0acccc⟩ := blk2 hA_0accc
      go_simp
      refine hK.out _ _ ⟨blk_store2 hP_0accc (Nat.ne_of_lt zAP_0a) _ _, blk_store2 hQ_0accc (Nat.ne_of_lt zAQ_0a) _ _, store2_bel hB_0accc zAB_0a _ _⟩ (fun hHeld => ?_)
      clear hK K
      try simp only [Act.put, List.getElem_toArray, List.getElem_cons_succ, List.getElem_cons_zero, List.setIfInBounds_toArray, List.set_cons_zero, List.set_cons_succ]
      obtain ⟨hP_0acccc, hQ_0acccc, hB_0acccc⟩ := id hHeld
      have hA_0acccc := blk2_set (a := .bool r) (b := .int .i64 u) hA_0accc
      refine wpAnyH_done (by kernel_rfl) ?_ _
      go_wp2_with fail
      go_meet
      exact ⟨_, rfl, zAB_0a, hA_0acccc, hP_0acccc, hQ_0acccc, hB_0acccc⟩
  case rest =>
    obtain ⟨C, rfl, hC, hA, hP, hQ, hB⟩ := hcut
    go_upto_region 2 with fail
    go_cut [10] (fun s10 wx => ∃ D : Nat, s10 = .pointer (some ⟨D, 0, none⟩) ∧ wx.heap[D]? = some (.cells #[.bool r, .int .i64 u] 47) ∧ wx.heap[C]? = some (.cells #[.bool r, .int .i64 u] 47) ∧ Below w.heap.size w wx)
    case first =>
      refine wp_region_held_drew (S := (fun w' => w'.heap[w.heap.size]? = some (.cells #[.bool a0_0, .int .i64 a0_1] 45) ∧ w'.heap[w.heap.size + 1]? = some (.cells #[.int .i64 a1_0, .int .i64 a1_1] 23) ∧ w'.heap[C]? = some (.cells #[.bool r, .int .i64 u] 47) ∧ Below w.heap.size w w')) (by kernel_rfl) ⟨hP, hQ, hA, hB.drew⟩ (fun hHeld => ?_)
      obtain ⟨hP_0, hQ_0, hA_0, hB_0⟩ := id hHeld
      refine wpAnyH_take (i := 0) (oi := _) (v := ?_) rfl (by kernel_rfl) (by kernel_rfl) (by kernel_rfl) (fun _ _ _ h => h) (Or.inl ⟨by rfl, ?_⟩) (by assumption) ?_
      (rotate_left); (focus (intro wv hSw; (obtain ⟨qP, qQ, qA, qB⟩ := hSw); obtain ⟨_, _, _, _, _⟩ := blk2 qP; obtain ⟨_, _, _, _, _⟩ := blk2 qQ; obtain ⟨_, _, _, _, _⟩ := blk2 qA; go_simp; (try with_reducible rfl)))
      try simp only [Act.put, List.getElem_toArray, List.getElem_cons_succ, List.getElem_cons_zero, List.setIfInBounds_toArray, List.set_cons_zero, List.set_cons_succ]
      refine wpAnyH_take (i := 2) (oi := _) (v := ?_) rfl (by kernel_rfl) (by kernel_rfl) (by kernel_rfl) (fun _ _ _ h => h) (Or.inl ⟨by rfl, ?_⟩) (by assumption) ?_
      (rotate_left); (focus (intro wv hSw; (obtain ⟨qP, qQ, qA, qB⟩ := hSw); obtain ⟨_, _, _, _, _⟩ := blk2 qP; obtain ⟨_, _, _, _, _⟩ := blk2 qQ; obtain ⟨_, _, _, _, _⟩ := blk2 qA; go_simp; (try with_reducible rfl)))
      try simp only [Act.put, List.getElem_toArray, List.getElem_cons_succ, List.getElem_cons_zero, List.setIfInBounds_toArray, List.set_cons_zero, List.set_cons_succ]
      refine wpAnyH_take (i := 4) (oi := _) (v := ?_) rfl (by kernel_rfl) (by kernel_rfl) (by kernel_rfl) (fun _ _ _ h => h) (Or.inl ⟨by rfl, ?_⟩) (by assumption) ?_
      (rotate_left); (focus (intro wv hSw; (obtain ⟨qP, qQ, qA, qB⟩ := hSw); obtain ⟨_, _, _, _, _⟩ := blk2 qP; obtain ⟨_, _, _, _, _⟩ := blk2 qQ; obtain ⟨_, _, _, _, _⟩ := blk2 qA; go_simp; (try with_reducible rfl)))
      try simp only [Act.put, List.getElem_toArray, List.getElem_cons_succ, List.getElem_cons_zero, List.setIfInBounds_toArray, List.set_cons_zero, List.set_cons_succ]
      refine wpAnyH_take (i := 5) (oi := _) (v := ?_) rfl (by kernel_rfl) (by kernel_rfl) (by kernel_rfl) (fun _ _ _ h => h) (Or.inl ⟨by rfl, ?_⟩) (by assumption) ?_
      (rotate_left); (focus (intro wv hSw; (obtain ⟨qP, qQ, qA, qB⟩ := hSw); obtain ⟨_, _, _, _, _⟩ := blk2 qP; obtain ⟨_, _, _, _, _⟩ := blk2 qQ; obtain ⟨_, _, _, _, _⟩ := blk2 qA; go_simp; (try with_reducible rfl)))
      try simp only [Act.put, List.getElem_toArray, List.getElem_cons_succ, List.getElem_cons_zero, List.setIfInBounds_toArray, List.set_cons_zero, List.set_cons_succ]
      refine wpAnyH_ready (rs := [1, 7]) (by kernel_rfl) (by simp) ?_
      refine AllReadyH.cons (o := _) rfl (fun K hK => ?_) (AllReadyH.cons (o := _) rfl (fun K hK => ?_) (AllReadyH.nil))
      · go_simp
        (go_at_call 33; refine (toBlind_any _ _ _).mono ?_; rintro e x0c ⟨rfl, hw_0c⟩)
        refine hK.out _ _ ⟨blk_next hP_0 hw_0c, blk_next hQ_0 hw_0c, blk_next hA_0 hw_0c, bel_next hB_0 hw_0c⟩ (fun hHeld => ?_)
        clear hK K
        try simp only [Act.put, List.getElem_toArray, List.getElem_cons_succ, List.getElem_cons_zero, List.setIfInBounds_toArray, List.set_cons_zero, List.set_cons_succ]
        obtain ⟨hP_0c, hQ_0c, hA_0c, hB_0c⟩ := id hHeld
        refine wpAnyH_ready (rs := [3, 7]) (by kernel_rfl) (by simp) ?_
        refine AllReadyH.cons (o := _) rfl (fun K hK => ?_) (AllReadyH.cons (o := _) rfl (fun K hK => ?_) (AllReadyH.nil))
        · go_simp
          (go_at_call 13; refine (toBand_any _ _ _).mono ?_; rintro e x0cc ⟨rfl, hw_0cc⟩)
          refine hK.out _ _ ⟨blk_next hP_0c hw_0cc, blk_next hQ_0c hw_0cc, blk_next hA_0c hw_0cc, bel_next hB_0c hw_0cc⟩ (fun hHeld => ?_)
          clear hK K
          try simp only [Act.put, List.getElem_toArray, List.getElem_cons_succ, List.getElem_cons_zero, List.setIfInBounds_toArray, List.set_cons_zero, List.set_cons_succ]
          obtain ⟨hP_0cc, hQ_0cc, hA_0cc, hB_0cc⟩ := id hHeld
          refine wpAnyH_ready (rs := [6, 7]) (by kernel_rfl) (by simp) ?_
          refine AllReadyH.cons (o := _) rfl (fun K hK => ?_) (AllReadyH.cons (o := _) rfl (fun K hK => ?_) (AllReadyH.nil))
          · go_simp
            (go_at_call 36; refine (iPs_is _ HR.out HU.out).mono ?_; rintro e x0ccc ⟨rfl, hw_0ccc⟩)
            refine hK.out _ _ ⟨blk_next hP_0cc hw_0ccc, blk_next hQ_0cc hw_0ccc, blk_next hA_0cc hw_0ccc, bel_next hB_0cc hw_0ccc⟩ (fun hHeld => ?_)
            clear hK K
            try simp only [Act.put, List.getElem_toArray, List.getElem_cons_succ, List.getElem_cons_zero, List.setIfInBounds_toArray, List.set_cons_zero, List.set_cons_succ]
            obtain ⟨hP_0ccc, hQ_0ccc, hA_0ccc, hB_0ccc⟩ := id hHeld
            refine wpAnyH_ready (rs := [7]) (by kernel_rfl) (by simp) ?_
            refine AllReadyH.cons (o := _) rfl (fun K hK => ?_) (AllReadyH.nil)
            go_simp
            refine hK.out _ _ ⟨blk_old hP_0ccc _, blk_old hQ_0ccc _, blk_old hA_0ccc _, hB_0ccc.alloc (by have := hB_0ccc.size; omega) _⟩ (fun hHeld => ?_)
            clear hK K
            try simp only [Act.put, List.getElem_toArray, List.getElem_cons_succ, List.getElem_cons_zero, List.setIfInBounds_toArray, List.set_cons_zero, List.set_cons_succ]
            obtain ⟨hP_0ccca, hQ_0ccca, hA_0ccca, hB_0ccca⟩ := id hHeld
            have hN_0ccca : (x0ccc.alloc (.cells #[.bool false, .int .i64 0] 47)).heap[x0ccc.heap.size]? = some (.cells #[.bool false, .int .i64 0] 47) := by have := blk_new (x0ccc) (.cells #[.bool false, .int .i64 0] 47); simpa using this
            have zNP_0ccca : w.heap.size < x0ccc.heap.size := by have := blk_lt hP_0ccc; simpa using this
            have zNQ_0ccca : w.heap.size + 1 < x0ccc.heap.size := by have := blk_lt hQ_0ccc; simpa using this
            have zNA_0ccca : C < x0ccc.heap.size := by have := blk_lt hA_0ccc; simpa using this
            have zNB_0ccca : w.heap.size ≤ x0ccc.heap.size := by have := hB_0ccc.size; simpa using this
            refine wpAnyH_ready (rs := [8]) (by kernel_rfl) (by simp) ?_
            refine AllReadyH.cons (o := _) rfl (fun K hK => ?_) (AllReadyH.nil)
            obtain ⟨sc0_0cccac, sc1_0cccac, sf0_0cccac, sf1_0cccac, sz_0cccac⟩ := blk2 hN_0ccca
            go_simp
            refine hK.out _ _ ⟨blk_old hP_0ccc _, blk_old hQ_0ccc _, blk_old hA_0ccc _, hB_0ccc.alloc (by have := hB_0ccc.size; omega) _⟩ (fun hHeld => ?_)
            clear hK K
            try simp only [Act.put, List.getElem_toArray, List.getElem_cons_succ, List.getElem_cons_zero, List.setIfInBounds_toArray, List.set_cons_zero, List.set_cons_succ]
            obtain ⟨hP_0cccac, hQ_0cccac, hA_0cccac, hB_0cccac⟩ := id hHeld
            have hN_0cccac : (x0ccc.alloc (.cells #[.bool r, .int .i64 u] 47)).heap[x0ccc.heap.size]? = some (.cells #[.bool r, .int .i64 u] 47) := by have := blk_new (x0ccc) (.cells #[.bool r, .int .i64 u] 47); simpa using this
            refine wpAnyH_done (by kernel_rfl) ?_ _
            go_wp2_with fail
            go_meet
            exact ⟨_, rfl, hN_0cccac, hA_0cccac, hB_0cccac⟩
          · go_simp
            refine hK.out _ _ ⟨blk_old hP_0cc _, blk_old hQ_0cc _, blk_old hA_0cc _, hB_0cc.alloc (by have := hB_0cc.size; omega) _⟩ (fun hHeld => ?_)
            clear hK K
            try simp only [Act.put, List.getElem_toArray, List.getElem_cons_succ, List.getElem_cons_zero, List.setIfInBounds_toArray, List.set_cons_zero, List.set_cons_succ]
            obtain ⟨hP_0cca, hQ_0cca, hA_0cca, hB_0cca⟩ := id hHeld
            have hN_0cca : (x0cc.alloc (.cells #[.bool false, .int .i64 0] 47)).heap[x0cc.heap.size]? = some (.cells #[.bool false, .int .i64 0] 47) := by have := blk_new (x0cc) (.cells #[.bool false, .int .i64 0] 47); simpa using this
            have zNP_0cca : w.heap.size < x0cc.heap.size := by have := blk_lt hP_0cc; simpa using this
            have zNQ_0cca : w.heap.size + 1 < x0cc.heap.size := by have := blk_lt hQ_0cc; simpa using this
            have zNA_0cca : C < x0cc.heap.size := by have := blk_lt hA_0cc; simpa using this
            have zNB_0cca : w.heap.size ≤ x0cc.heap.size := by have := hB_0cc.size; simpa using this
            refine wpAnyH_ready (rs := [6]) (by kernel_rfl) (by simp) ?_
            refine AllReadyH.cons (o := _) rfl (fun K hK => ?_) (AllReadyH.nil)
            go_simp
            (go_at_call 36; refine (iPs_is _ HR.out HU.out).mono ?_; rintro e x0ccac ⟨rfl, hw_0ccac⟩)
            refine hK.out _ _ ⟨blk_next hP_0cca hw_0ccac, blk_next hQ_0cca hw_0ccac, blk_next hA_0cca hw_0ccac, bel_next hB_0cca hw_0ccac⟩ (fun hHeld => ?_)
            clear hK K
            try simp only [Act.put, List.getElem_toArray, List.getElem_cons_succ, List.getElem_cons_zero, List.setIfInBounds_toArray, List.set_cons_zero, List.set_cons_succ]
            obtain ⟨hP_0ccac, hQ_0ccac, hA_0ccac, hB_0ccac⟩ := id hHeld
            have hN_0ccac := blk_next hN_0cca hw_0ccac
            refine wpAnyH_ready (rs := [8]) (by kernel_rfl) (by simp) ?_
            refine AllReadyH.cons (o := _) rfl (fun K hK => ?_) (AllReadyH.nil)
            obtain ⟨sc0_0ccacc, sc1_0ccacc, sf0_0ccacc, sf1_0ccacc, sz_0ccacc⟩ := blk2 hN_0ccac
            go_simp
            refine hK.out _ _ ⟨blk_store2 hP_0ccac (Nat.ne_of_lt zNP_0cca) _ _, blk_store2 hQ_0ccac (Nat.ne_of_lt zNQ_0cca) _ _, blk_store2 hA_0ccac (Nat.ne_of_lt zNA_0cca) _ _, store2_bel hB_0ccac zNB_0cca _ _⟩ (fun hHeld => ?_)
            clear hK K
            try simp only [Act.put, List.getElem_toArray, List.getElem_cons_succ, List.getElem_cons_zero, List.setIfInBounds_toArray, List.set_cons_zero, List.set_cons_succ]
            obtain ⟨hP_0ccacc, hQ_0ccacc, hA_0ccacc, hB_0ccacc⟩ := id hHeld
            have hN_0ccacc := blk2_set (a := .bool r) (b := .int .i64 u) hN_0ccac
            refine wpAnyH_done (by kernel_rfl) ?_ _
            go_wp2_with fail
            go_meet
            exact ⟨_, rfl, hN_0ccacc, hA_0ccacc, hB_0ccacc⟩
        · go_simp
          refine hK.out _ _ ⟨blk_old hP_0c _, blk_old hQ_0c _, blk_old hA_0c _, hB_0c.alloc (by have := hB_0c.size; omega) _⟩ (fun hHeld => ?_)
          clear hK K
          try simp only [Act.put, List.getElem_toArray, List.getElem_cons_succ, List.getElem_cons_zero, List.setIfInBounds_toArray, List.set_cons_zero, List.set_cons_succ]
          obtain ⟨hP_0ca, hQ_0ca, hA_0ca, hB_0ca⟩ := id hHeld
          have hN_0ca : (x0c.alloc (.cells #[.bool false, .int .i64 0] 47)).heap[x0c.heap.size]? = some (.cells #[.bool false, .int .i64 0] 47) := by have := blk_new (x0c) (.cells #[.bool false, .int .i64 0] 47); simpa using this
          have zNP_0ca : w.heap.size < x0c.heap.size := by have := blk_lt hP_0c; simpa using this
          have zNQ_0ca : w.heap.size + 1 < x0c.heap.size := by have := blk_lt hQ_0c; simpa using this
          have zNA_0ca : C < x0c.heap.size := by have := blk_lt hA_0c; simpa using this
          have zNB_0ca : w.heap.size ≤ x0c.heap.size := by have := hB_0c.size; simpa using this
          refine wpAnyH_ready (rs := [3]) (by kernel_rfl) (by simp) ?_
          refine AllReadyH.cons (o := _) rfl (fun K hK => ?_) (AllReadyH.nil)
          go_simp
          (go_at_call 13; refine (toBand_any _ _ _).mono ?_; rintro e x0cac ⟨rfl, hw_0cac⟩)
          refine hK.out _ _ ⟨blk_next hP_0ca hw_0cac, blk_next hQ_0ca hw_0cac, blk_next hA_0ca hw_0cac, bel_next hB_0ca hw_0cac⟩ (fun hHeld => ?_)
          clear hK K
          try simp only [Act.put, List.getElem_toArray, List.getElem_cons_succ, List.getElem_cons_zero, List.setIfInBounds_toArray, List.set_cons_zero, List.set_cons_succ]
          obtain ⟨hP_0cac, hQ_0cac, hA_0cac, hB_0cac⟩ := id hHeld
          have hN_0cac := blk_next hN_0ca hw_0cac
          refine wpAnyH_ready (rs := [6]) (by kernel_rfl) (by simp) ?_
          refine AllReadyH.cons (o := _) rfl (fun K hK => ?_) (AllReadyH.nil)
          go_simp
          (go_at_call 36; refine (iPs_is _ HR.out HU.out).mono ?_; rintro e x0cacc ⟨rfl, hw_0cacc⟩)
          refine hK.out _ _ ⟨blk_next hP_0cac hw_0cacc, blk_next hQ_0cac hw_0cacc, blk_next hA_0cac hw_0cacc, bel_next hB_0cac hw_0cacc⟩ (fun hHeld => ?_)
          clear hK K
          try simp only [Act.put, List.getElem_toArray, List.getElem_cons_succ, List.getElem_cons_zero, List.setIfInBounds_toArray, List.set_cons_zero, List.set_cons_succ]
          obtain ⟨hP_0cacc, hQ_0cacc, hA_0cacc, hB_0cacc⟩ := id hHeld
          have hN_0cacc := blk_next hN_0cac hw_0cacc
          refine wpAnyH_ready (rs := [8]) (by kernel_rfl) (by simp) ?_
          refine AllReadyH.cons (o := _) rfl (fun K hK => ?_) (AllReadyH.nil)
          obtain ⟨sc0_0caccc, sc1_0caccc, sf0_0caccc, sf1_0caccc, sz_0caccc⟩ := blk2 hN_0cacc
          go_simp
          refine hK.out _ _ ⟨blk_store2 hP_0cacc (Nat.ne_of_lt zNP_0ca) _ _, blk_store2 hQ_0cacc (Nat.ne_of_lt zNQ_0ca) _ _, blk_store2 hA_0cacc (Nat.ne_of_lt zNA_0ca) _ _, store2_bel hB_0cacc zNB_0ca _ _⟩ (fun hHeld => ?_)
          clear hK K
          try simp only [Act.put, List.getElem_toArray, List.getElem_cons_succ, List.getElem_cons_zero, List.setIfInBounds_toArray, List.set_cons_zero, List.set_cons_succ]
          obtain ⟨hP_0caccc, hQ_0caccc, hA_0caccc, hB_0caccc⟩ := id hHeld
          have hN_0caccc := blk2_set (a := .bool r) (b := .int .i64 u) hN_0cacc
          refine wpAnyH_done (by kernel_rfl) ?_ _
          go_wp2_with fail
          go_meet
          exact ⟨_, rfl, hN_0caccc, hA_0caccc, hB_0caccc⟩
      · go_simp
        refine hK.out _ _ ⟨blk_old hP_0 _, blk_old hQ_0 _, blk_old hA_0 _, hB_0.alloc (by have := hB_0.size; omega) _⟩ (fun hHeld => ?_)
        clear hK K
        try simp only [Act.put, List.getElem_toArray, List.getElem_cons_succ, List.getElem_cons_zero, List.setIfInBounds_toArray, List.set_cons_zero, List.set_cons_succ]
        obtain ⟨hP_0a, hQ_0a, hA_0a, hB_0a⟩ := id hHeld
        have hN_0a : (wc.drew.alloc (.cells #[.bool false, .int .i64 0] 47)).heap[wc.heap.size]? = some (.cells #[.bool false, .int .i64 0] 47) := by have := blk_new (wc.drew) (.cells #[.bool false, .int .i64 0] 47); simpa using this
        have zNP_0a : w.heap.size < wc.heap.size := by have := blk_lt hP_0; simpa using this
        have zNQ_0a : w.heap.size + 1 < wc.heap.size := by have := blk_lt hQ_0; simpa using this
        have zNA_0a : C < wc.heap.size := by have := blk_lt hA_0; simpa using this
        have zNB_0a : w.heap.size ≤ wc.heap.size := by have := hB_0.size; simpa using this
        refine wpAnyH_ready (rs := [1]) (by kernel_rfl) (by simp) ?_
        refine AllReadyH.cons (o := _) rfl (fun K hK => ?_) (AllReadyH.nil)
        go_simp
        (go_at_call 33; refine (toBlind_any _ _ _).mono ?_; rintro e x0ac ⟨rfl, hw_0ac⟩)
        refine hK.out _ _ ⟨blk_next hP_0a hw_0ac, blk_next hQ_0a hw_0ac, blk_next hA_0a hw_0ac, bel_next hB_0a hw_0ac⟩ (fun hHeld => ?_)
        clear hK K
        try simp only [Act.put, List.getElem_toArray, List.getElem_cons_succ, List.getElem_cons_zero, List.setIfInBounds_toArray, List.set_cons_zero, List.set_cons_succ]
        obtain ⟨hP_0ac, hQ_0ac, hA_0ac, hB_0ac⟩ := id hHeld
        have hN_0ac := blk_next hN_0a hw_0ac
        refine wpAnyH_ready (rs := [3]) (by kernel_rfl) (by simp) ?_
        refine AllReadyH.cons (o := _) rfl (fun K hK => ?_) (AllReadyH.nil)
        go_simp
        (go_at_call 13; refine (toBand_any _ _ _).mono ?_; rintro e x0acc ⟨rfl, hw_0acc⟩)
        refine hK.out _ _ ⟨blk_next hP_0ac hw_0acc, blk_next hQ_0ac hw_0acc, blk_next hA_0ac hw_0acc, bel_next hB_0ac hw_0acc⟩ (fun hHeld => ?_)
        clear hK K
        try simp only [Act.put, List.getElem_toArray, List.getElem_cons_succ, List.getElem_cons_zero, List.setIfInBounds_toArray, List.set_cons_zero, List.set_cons_succ]
        obtain ⟨hP_0acc, hQ_0acc, hA_0acc, hB_0acc⟩ := id hHeld
        have hN_0acc := blk_next hN_0ac hw_0acc
        refine wpAnyH_ready (rs := [6]) (by kernel_rfl) (by simp) ?_
        refine AllReadyH.cons (o := _) rfl (fun K hK => ?_) (AllReadyH.nil)
        go_simp
        (go_at_call 36; refine (iPs_is _ HR.out HU.out).mono ?_; rintro e x0accc ⟨rfl, hw_0accc⟩)
        refine hK.out _ _ ⟨blk_next hP_0acc hw_0accc, blk_next hQ_0acc hw_0accc, blk_next hA_0acc hw_0accc, bel_next hB_0acc hw_0accc⟩ (fun hHeld => ?_)
        clear hK K
        try simp only [Act.put, List.getElem_toArray, List.getElem_cons_succ, List.getElem_cons_zero, List.setIfInBounds_toArray, List.set_cons_zero, List.set_cons_succ]
        obtain ⟨hP_0accc, hQ_0accc, hA_0accc, hB_0accc⟩ := id hHeld
        have hN_0accc := blk_next hN_0acc hw_0accc
        refine wpAnyH_ready (rs := [8]) (by kernel_rfl) (by simp) ?_
        refine AllReadyH.cons (o := _) rfl (fun K hK => ?_) (AllReadyH.nil)
        obtain ⟨sc0_0acccc, sc1_0acccc, sf0_0acccc, sf1_0acccc, sz_0acccc⟩ := blk2 hN_0accc
        go_simp
        refine hK.out _ _ ⟨blk_store2 hP_0accc (Nat.ne_of_lt zNP_0a) _ _, blk_store2 hQ_0accc (Nat.ne_of_lt zNQ_0a) _ _, blk_store2 hA_0accc (Nat.ne_of_lt zNA_0a) _ _, store2_bel hB_0accc zNB_0a _ _⟩ (fun hHeld => ?_)
        clear hK K
        try simp only [Act.put, List.getElem_toArray, List.getElem_cons_succ, List.getElem_cons_zero, List.setIfInBounds_toArray, List.set_cons_zero, List.set_cons_succ]
        obtain ⟨hP_0acccc, hQ_0acccc, hA_0acccc, hB_0acccc⟩ := id hHeld
        have hN_0acccc := blk2_set (a := .bool r) (b := .int .i64 u) hN_0accc
        refine wpAnyH_done (by kernel_rfl) ?_ _
        go_wp2_with fail
        go_meet
        exact ⟨_, rfl, hN_0acccc, hA_0acccc, hB_0acccc⟩
    case rest =>
      clear hP hQ hA hB
      obtain ⟨D, rfl, hN, hA, hB⟩ := hcut
      obtain ⟨c0, c1, f0, f1, cz⟩ := blk2 hA
      obtain ⟨d0, d1, g0, g1, dz⟩ := blk2 hN
      go_wp2_with fail
      refine (eqBlind_same _ _ _).mono ?_; rintro E w5 ⟨rfl, hw5⟩
      go_wp2
      go_ret
      exact ⟨rfl, bel_next hB hw5⟩

set_option maxRecDepth 100000 in
theorem lifted (os : Os) (started : os.Started) (H : Type) (enc : TypeId × Value → H) :
    ReturnsInHanded {} Try.checked os 10 .any (Rows.fnExactPauseStepSpec.pre6 enc Try.prog Try.f10 Rows.fnExactPauseStepRow.domain false) (Rows.fnExactPauseStepSpec.post enc Try.prog Try.f10 false true false false) := by
  refine returnsInHanded_of_change (C := Try.checked) own started (by kernel_rfl) Try.func10
    (ChangeSpec.witness6 (enc := enc) (C := Try.checked) false ⟨#[], #[.agg #[.bool false, .int .i64 0], .agg #[.int .i64 0, .int .i64 0], .int .i64 0, .int .i64 0], []⟩ 8 (by kernel_rfl) (by kernel_rfl) (by kernel_rfl) (by kernel_rfl)) ?_
  intro W base args ds gs before hval0 hW hcnd _
  have hval : ∀ (j : Nat) t v, Try.f10.params[j]? = some t → args[j]? = some v → Value.okWide Try.prog W .any base t v := hval0
  have hW' := hW
  obtain ⟨p, q, hA0, hV, rfl, hfz, hnd⟩ := hW
  have hA : DataW.TrodAll enc Try.prog W 0 (fun _ => true) true Try.f10.params.toList args.toList ds p := hA0
  rw [Try.params10] at hA hval
  obtain ⟨v0, vs0, d0, ds0, p0, q0, hargs, rfl, rfl, h0, r0⟩ := trodAll_cons hA
  obtain ⟨v1, vs1, d1, ds1, p1, q1, rfl, rfl, rfl, h1, r1⟩ := trodAll_cons r0
  obtain ⟨v2, vs2, d2, ds2, p2, q2, rfl, rfl, rfl, h2, r2⟩ := trodAll_cons r1
  obtain ⟨v3, vs3, d3, ds3, p3, q3, rfl, rfl, rfl, h3, r3⟩ := trodAll_cons r2
  obtain ⟨rfl, rfl, rfl⟩ := trodAll_nil r3
  obtain rfl : args = #[v0, v1, v2, v3] := by cases args; simp_all
  obtain ⟨rfl, rfl⟩ := trodVars_none hV
  have k0 := h0
  have lt0 : ∀ x ∈ p0, x.block < W.heap.size := by obtain ⟨m, hm⟩ := k0; exact DataW.trod_lt m _ _ _ hm
  have k1 := h1
  have lt1 : ∀ x ∈ p1, x.block < W.heap.size := by obtain ⟨m, hm⟩ := k1; exact DataW.trod_lt m _ _ _ hm
  have k2 := h2
  have lt2 : ∀ x ∈ p2, x.block < W.heap.size := by obtain ⟨m, hm⟩ := k2; exact DataW.trod_lt m _ _ _ hm
  have k3 := h3
  have lt3 : ∀ x ∈ p3, x.block < W.heap.size := by obtain ⟨m, hm⟩ := k3; exact DataW.trod_lt m _ _ _ hm
  obtain ⟨⟨a0_0, a0_1⟩, rfl, q0⟩ := openBlind (hval 0 45 v0 rfl rfl) h0
  obtain ⟨⟨a1_0, a1_1⟩, rfl, q1⟩ := openBand (hval 1 23 v1 rfl rfl) h1
  obtain ⟨a2, rfl, rfl, rfl, w2⟩ := open_int Try.underlying3 (hval 2 3 v2 rfl rfl) h2
  obtain ⟨a3, rfl, rfl, rfl, w3⟩ := open_int Try.underlying3 (hval 3 3 v3 rfl rfl) h3
  clear hA0 hval0
  refine (walk a0_0 a0_1 q0 a1_0 a1_1 q1 a2 w2 a3 w3 W).mono fun e W' ⟨he, bel⟩ => ?_
  subst he
  exact ⟨_, rfl, _, _, _, [], _, [], hW', trodAll_mk1 (shut_bool Try.underlying4 _), (trodAll_cons_mk (Below.trod laidOut (by kernel_rfl) (of_decide_eq_true (by kernel_rfl)) k0 bel lt0) (trodAll_cons_mk (Below.trod laidOut (by kernel_rfl) (of_decide_eq_true (by kernel_rfl)) k1 bel lt1) (trodAll_cons_mk (Below.trod laidOut (by kernel_rfl) (of_decide_eq_true (by kernel_rfl)) k2 bel lt2) (trodAll_cons_mk (Below.trod laidOut (by kernel_rfl) (of_decide_eq_true (by kernel_rfl)) k3 bel lt3) trodAll_mk0)))), rfl, bel.frame _, fun h => by cases h⟩

theorem over : Rows.fnExactPauseStepRow.holds Try.pinned (OpenSpec.ofChange Rows.fnExactPauseStepSpec) :=
  OpenClaim.holds_of_wide 10 Try.f10 rfl rfl rfl rfl rfl rfl rfl ⟨rfl, rfl, rfl, rfl, rfl⟩ rfl rfl rfl rfl rfl (by kernel_rfl) Try.func10 (by kernel_rfl)
    (of_decide_eq_true (by kernel_rfl)) (by unfold Func.isWrapper; first | (rw [if_pos (by decide +kernel)]; kernel_rfl) | (rw [if_neg (by decide +kernel)]; exact ⟨rfl, rfl⟩))
    (fun os started H enc _ => lifted os started H enc)

/-- The statement. -/
theorem proved : Rows.FnExactPauseStepSaid :=
  over
#print axioms proved
end Go.Proofs.Ytecliamihggpoaa.fnExactPauseStep
