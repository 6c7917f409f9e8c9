/- FnExactInShadow: whatever the input, the law returns true, and its arguments read as they did. No conditions beyond those of the statement's row. -/
import Derived.Test.YtdmfipgmlplkiaaVa
import Derived.Test.YtdmfipgmlplkiaaVd
import Derived.Test.YtdmfipgmlplkiaaGPlace
import Derived.Test.YtdmfipgmlplkiaaGBlock
import Derived.Test.YtdmfipgmlplkiaaGRay
namespace Go.Proofs.Ytdmfipgmlplkiaa.fnExactInShadow
open Go.Proofs.Ytdmfipgmlplkiaa
open Go.ChangeShapes Go.WideShapes Go.ChangeAt Go.RowKit Go.Joins
set_option linter.unusedVariables false
set_option linter.unusedSimpArgs false
set_option linter.unnecessarySimpa false

theorem own : ownKnob Try.prog.godebug = none := by kernel_rfl
theorem laidOut : laidOutB Try.prog = true := by kernel_rfl

set_option maxRecDepth 100000 in
set_option maxHeartbeats 4000000 in
theorem walk (a0_0 : Int) (a0_1 : Int) (q0 : Wf a0_0 ∧ Wf a0_1) (a1_0 : Int) (a1_1 : Int) (a1_2 : Int) (a1_3 : Int) (a1_4 : Int) (q1 : Wf a1_0 ∧ Wf a1_1 ∧ Wf a1_2 ∧ Wf a1_3 ∧ Wf a1_4) (a2_0 : Int) (a2_1 : Int) (a2_2 : Int) (q2 : Wf a2_0 ∧ Wf a2_1 ∧ Wf a2_2) (w : World) :
    Calls Try.prog 4 #[.agg #[.int .i64 a0_0, .int .i64 a0_1], .agg #[.int .i64 a1_0, .int .i64 a1_1, .int .i64 a1_2, .int .i64 a1_3, .int .i64 a1_4], .agg #[.int .i64 a2_0, .int .i64 a2_1, .int .i64 a2_2]] w fun e w' => e = .returned (.bool true) ∧ Below w.heap.size w w' := by
  cases hc : shB a0_0 a0_1 a1_0 a1_1 a1_2 a1_3 a1_4 a2_0 a2_1 a2_2
  all_goals
    go_enter Try.func4, Try.ntmps4
    go_wp2_with fail
    refine wp_region_held_drew (S := (fun w' => w'.heap[w.heap.size]? = some (.cells #[.int .i64 a0_0, .int .i64 a0_1] 30) ∧ w'.heap[w.heap.size + 1]? = some (.cells #[.int .i64 a1_0, .int .i64 a1_1, .int .i64 a1_2, .int .i64 a1_3, .int .i64 a1_4] 32) ∧ w'.heap[w.heap.size + 1 + 1]? = some (.cells #[.int .i64 a2_0, .int .i64 a2_1, .int .i64 a2_2] 34) ∧ Below w.heap.size w w')) (by kernel_rfl) ⟨blk_old (blk_old (blk_new w _) _) _, blk_old (new2 w _ _) _, new3 w _ _ _, (bel3 w _ _ _).drew⟩ (fun hHeld => ?_)
    obtain ⟨hP_0, hQ_0, hR_0, hB_0⟩ := id hHeld
    refine wpAnyH_take (i := 0) (oi := _) (v := ?_) rfl (by kernel_rfl) (by kernel_rfl) (by kernel_rfl) (fun _ _ _ h => h) (Or.inl ⟨by rfl, ?_⟩) (by assumption) ?_
    (rotate_left); (focus (intro wv hSw; (obtain ⟨qP, qQ, qR, qB⟩ := hSw); obtain ⟨_, _, _, _, _⟩ := blk2 qP; obtain ⟨_, _, _, _, _, _, _, _, _, _, _⟩ := blk5 qQ; obtain ⟨_, _, _, _, _, _, _⟩ := blk3 qR; go_simp; (try with_reducible rfl)))
    try simp only [Act.put, List.getElem_toArray, List.getElem_cons_succ, List.getElem_cons_zero, List.setIfInBounds_toArray, List.set_cons_zero, List.set_cons_succ]
    refine wpAnyH_take (i := 2) (oi := _) (v := ?_) rfl (by kernel_rfl) (by kernel_rfl) (by kernel_rfl) (fun _ _ _ h => h) (Or.inl ⟨by rfl, ?_⟩) (by assumption) ?_
    (rotate_left); (focus (intro wv hSw; (obtain ⟨qP, qQ, qR, qB⟩ := hSw); obtain ⟨_, _, _, _, _⟩ := blk2 qP; obtain ⟨_, _, _, _, _, _, _, _, _, _, _⟩ := blk5 qQ; obtain ⟨_, _, _, _, _, _, _⟩ := blk3 qR; go_simp; (try with_reducible rfl)))
    try simp only [Act.put, List.getElem_toArray, List.getElem_cons_succ, List.getElem_cons_zero, List.setIfInBounds_toArray, List.set_cons_zero, List.set_cons_succ]
    refine wpAnyH_take (i := 4) (oi := _) (v := ?_) rfl (by kernel_rfl) (by kernel_rfl) (by kernel_rfl) (fun _ _ _ h => h) (Or.inl ⟨by rfl, ?_⟩) (by assumption) ?_
    (rotate_left); (focus (intro wv hSw; (obtain ⟨qP, qQ, qR, qB⟩ := hSw); obtain ⟨_, _, _, _, _⟩ := blk2 qP; obtain ⟨_, _, _, _, _, _, _, _, _, _, _⟩ := blk5 qQ; obtain ⟨_, _, _, _, _, _, _⟩ := blk3 qR; go_simp; (try with_reducible rfl)))
    try simp only [Act.put, List.getElem_toArray, List.getElem_cons_succ, List.getElem_cons_zero, List.setIfInBounds_toArray, List.set_cons_zero, List.set_cons_succ]
    refine wpAnyH_ready (rs := [1]) (by kernel_rfl) (by simp) ?_
    refine AllReadyH.cons (o := _) rfl (fun K hK => ?_) (AllReadyH.nil)
    go_simp
    (go_at_call 17; refine (toPlace_any _ _ _).mono ?_; rintro e x0c ⟨rfl, hw_0c⟩)
    refine hK.out _ _ ⟨blk_next hP_0 hw_0c, blk_next hQ_0 hw_0c, blk_next hR_0 hw_0c, bel_next hB_0 hw_0c⟩ (fun hHeld => ?_)
    clear hK K
    try simp only [Act.put, List.getElem_toArray, List.getElem_cons_succ, List.getElem_cons_zero, List.setIfInBounds_toArray, List.set_cons_zero, List.set_cons_succ]
    obtain ⟨hP_0c, hQ_0c, hR_0c, hB_0c⟩ := id hHeld
    refine wpAnyH_ready (rs := [3]) (by kernel_rfl) (by simp) ?_
    refine AllReadyH.cons (o := _) rfl (fun K hK => ?_) (AllReadyH.nil)
    go_simp
    (go_at_call 18; refine (toBlock_any _ _ _ _ _ _).mono ?_; rintro e x0cc ⟨rfl, hw_0cc⟩)
    refine hK.out _ _ ⟨blk_next hP_0c hw_0cc, blk_next hQ_0c hw_0cc, blk_next hR_0c hw_0cc, bel_next hB_0c hw_0cc⟩ (fun hHeld => ?_)
    clear hK K
    try simp only [Act.put, List.getElem_toArray, List.getElem_cons_succ, List.getElem_cons_zero, List.setIfInBounds_toArray, List.set_cons_zero, List.set_cons_succ]
    obtain ⟨hP_0cc, hQ_0cc, hR_0cc, hB_0cc⟩ := id hHeld
    refine wpAnyH_ready (rs := [5]) (by kernel_rfl) (by simp) ?_
    refine AllReadyH.cons (o := _) rfl (fun K hK => ?_) (AllReadyH.nil)
    go_simp
    (go_at_call 19; refine (toRay_any _ _ _ _).mono ?_; rintro e x0ccc ⟨rfl, hw_0ccc⟩)
    refine hK.out _ _ ⟨blk_next hP_0cc hw_0ccc, blk_next hQ_0cc hw_0ccc, blk_next hR_0cc hw_0ccc, bel_next hB_0cc hw_0ccc⟩ (fun hHeld => ?_)
    clear hK K
    try simp only [Act.put, List.getElem_toArray, List.getElem_cons_succ, List.getElem_cons_zero, List.setIfInBounds_toArray, List.set_cons_zero, List.set_cons_succ]
    obtain ⟨hP_0ccc, hQ_0ccc, hR_0ccc, hB_0ccc⟩ := id hHeld
    refine wpAnyH_ready (rs := [6]) (by kernel_rfl) (by simp) ?_
    refine AllReadyH.cons (o := _) rfl (fun K hK => ?_) (AllReadyH.nil)
    go_simp
    (go_at_call 16; refine (sSh_any _ _ _ _ _ _ _ _ _ _ _).mono ?_; rintro e x0cccc ⟨rfl, hw_0cccc⟩)
    refine hK.out _ _ ⟨blk_next hP_0ccc hw_0cccc, blk_next hQ_0ccc hw_0cccc, blk_next hR_0ccc hw_0cccc, bel_next hB_0ccc hw_0cccc⟩ (fun hHeld => ?_)
    clear hK K
    try simp only [Act.put, List.getElem_toArray, List.getElem_cons_succ, List.getElem_cons_zero, List.setIfInBounds_toArray, List.set_cons_zero, List.set_cons_succ]
    obtain ⟨hP_0cccc, hQ_0cccc, hR_0cccc, hB_0cccc⟩ := id hHeld
    refine wpAnyH_take (i := 7) (oi := _) (v := ?_) rfl (by kernel_rfl) (by kernel_rfl) (by kernel_rfl) (fun _ _ _ h => h) (Or.inl ⟨by rfl, ?_⟩) (by assumption) ?_
    (rotate_left); (focus (intro wv hSw; (obtain ⟨qP, qQ, qR, qB⟩ := hSw); obtain ⟨_, _, _, _, _⟩ := blk2 qP; obtain ⟨_, _, _, _, _, _, _, _, _, _, _⟩ := blk5 qQ; obtain ⟨_, _, _, _, _, _, _⟩ := blk3 qR; go_simp; (try with_reducible rfl)))
    try simp only [Act.put, List.getElem_toArray, List.getElem_cons_succ, List.getElem_cons_zero, List.setIfInBounds_toArray, List.set_cons_zero, List.set_cons_succ]
    refine wpAnyH_done (by kernel_rfl) ?_ _
    have hP := hP_0cccc
    have hQ := hQ_0cccc
    have hR := hR_0cccc
    have hB := hB_0cccc
    clear hP_0 hQ_0 hR_0 hB_0 hP_0c hQ_0c hR_0c hB_0c hP_0cc hQ_0cc hR_0cc hB_0cc hP_0ccc hQ_0ccc hR_0ccc hB_0ccc hP_0cccc hQ_0cccc hR_0cccc hB_0cccc
    go_wp2_with fail
    refine wp_region_held_drew (S := (fun w' => w'.heap[w.heap.size]? = some (.cells #[.int .i64 a0_0, .int .i64 a0_1] 30) ∧ w'.heap[w.heap.size + 1]? = some (.cells #[.int .i64 a1_0, .int .i64 a1_1, .int .i64 a1_2, .int .i64 a1_3, .int .i64 a1_4] 32) ∧ w'.heap[w.heap.size + 1 + 1]? = some (.cells #[.int .i64 a2_0, .int .i64 a2_1, .int .i64 a2_2] 34) ∧ Below w.heap.size w w')) (by kernel_rfl) ⟨hP, hQ, hR, hB.drew⟩ (fun hHeld => ?_)
    obtain ⟨hP_0, hQ_0, hR_0, hB_0⟩ := id hHeld
    refine wpAnyH_take (i := 0) (oi := _) (v := ?_) rfl (by kernel_rfl) (by kernel_rfl) (by kernel_rfl) (fun _ _ _ h => h) (Or.inl ⟨by rfl, ?_⟩) (by assumption) ?_
    (rotate_left); (focus (intro wv hSw; (obtain ⟨qP, qQ, qR, qB⟩ := hSw); obtain ⟨_, _, _, _, _⟩ := blk2 qP; obtain ⟨_, _, _, _, _, _, _, _, _, _, _⟩ := blk5 qQ; obtain ⟨_, _, _, _, _, _, _⟩ := blk3 qR; go_simp; (try with_reducible rfl)))
    try simp only [Act.put, List.getElem_toArray, List.getElem_cons_succ, List.getElem_cons_zero, List.setIfInBounds_toArray, List.set_cons_zero, List.set_cons_succ]
    refine wpAnyH_take (i := 2) (oi := _) (v := ?_) rfl (by kernel_rfl) (by kernel_rfl) (by kernel_rfl) (fun _ _ _ h => h) (Or.inl ⟨by rfl, ?_⟩) (by assumption) ?_
    (rotate_left); (focus (intro wv hSw; (obtain ⟨qP, qQ, qR, qB⟩ := hSw); obtain ⟨_, _, _, _, _⟩ := blk2 qP; obtain ⟨_, _, _, _, _, _, _, _, _, _, _⟩ := blk5 qQ; obtain ⟨_, _, _, _, _, _, _⟩ := blk3 qR; go_simp; (try with_reducible rfl)))
    try simp only [Act.put, List.getElem_toArray, List.getElem_cons_succ, List.getElem_cons_zero, List.setIfInBounds_toArray, List.set_cons_zero, List.set_cons_succ]
    refine wpAnyH_take (i := 4) (oi := _) (v := ?_) rfl (by kernel_rfl) (by kernel_rfl) (by kernel_rfl) (fun _ _ _ h => h) (Or.inl ⟨by rfl, ?_⟩) (by assumption) ?_
    (rotate_left); (focus (intro wv hSw; (obtain ⟨qP, qQ, qR, qB⟩ := hSw); obtain ⟨_, _, _, _, _⟩ := blk2 qP; obtain ⟨_, _, _, _, _, _, _, _, _, _, _⟩ := blk5 qQ; obtain ⟨_, _, _, _, _, _, _⟩ := blk3 qR; go_simp; (try with_reducible rfl)))
    try simp only [Act.put, List.getElem_toArray, List.getElem_cons_succ, List.getElem_cons_zero, List.setIfInBounds_toArray, List.set_cons_zero, List.set_cons_succ]
    refine wpAnyH_ready (rs := [1]) (by kernel_rfl) (by simp) ?_
    refine AllReadyH.cons (o := _) rfl (fun K hK => ?_) (AllReadyH.nil)
    go_simp
    (go_at_call 17; refine (toPlace_any _ _ _).mono ?_; rintro e x0c ⟨rfl, hw_0c⟩)
    refine hK.out _ _ ⟨blk_next hP_0 hw_0c, blk_next hQ_0 hw_0c, blk_next hR_0 hw_0c, bel_next hB_0 hw_0c⟩ (fun hHeld => ?_)
    clear hK K
    try simp only [Act.put, List.getElem_toArray, List.getElem_cons_succ, List.getElem_cons_zero, List.setIfInBounds_toArray, List.set_cons_zero, List.set_cons_succ]
    obtain ⟨hP_0c, hQ_0c, hR_0c, hB_0c⟩ := id hHeld
    refine wpAnyH_ready (rs := [3]) (by kernel_rfl) (by simp) ?_
    refine AllReadyH.cons (o := _) rfl (fun K hK => ?_) (AllReadyH.nil)
    go_simp
    (go_at_call 18; refine (toBlock_any _ _ _ _ _ _).mono ?_; rintro e x0cc ⟨rfl, hw_0cc⟩)
    refine hK.out _ _ ⟨blk_next hP_0c hw_0cc, blk_next hQ_0c hw_0cc, blk_next hR_0c hw_0cc, bel_next hB_0c hw_0cc⟩ (fun hHeld => ?_)
    clear hK K
    try simp only [Act.put, List.getElem_toArray, List.getElem_cons_succ, List.getElem_cons_zero, List.setIfInBounds_toArray, List.set_cons_zero, List.set_cons_succ]
    obtain ⟨hP_0cc, hQ_0cc, hR_0cc, hB_0cc⟩ := id hHeld
    refine wpAnyH_ready (rs := [5]) (by kernel_rfl) (by simp) ?_
    refine AllReadyH.cons (o := _) rfl (fun K hK => ?_) (AllReadyH.nil)
    go_simp
    (go_at_call 19; refine (toRay_any _ _ _ _).mono ?_; rintro e x0ccc ⟨rfl, hw_0ccc⟩)
    refine hK.out _ _ ⟨blk_next hP_0cc hw_0ccc, blk_next hQ_0cc hw_0ccc, blk_next hR_0cc hw_0ccc, bel_next hB_0cc hw_0ccc⟩ (fun hHeld => ?_)
    clear hK K
    try simp only [Act.put, List.getElem_toArray, List.getElem_cons_succ, List.getElem_cons_zero, List.setIfInBounds_toArray, List.set_cons_zero, List.set_cons_succ]
    obtain ⟨hP_0ccc, hQ_0ccc, hR_0ccc, hB_0ccc⟩ := id hHeld
    refine wpAnyH_ready (rs := [6]) (by kernel_rfl) (by simp) ?_
    refine AllReadyH.cons (o := _) rfl (fun K hK => ?_) (AllReadyH.nil)
    go_simp
    (go_at_call 20; refine (iSh_any _ _ _ _ _ _ _ _ _ _ _).mono ?_; rintro e x0cccc ⟨rfl, hw_0cccc⟩)
    refine hK.out _ _ ⟨blk_next hP_0ccc hw_0cccc, blk_next hQ_0ccc hw_0cccc, blk_next hR_0ccc hw_0cccc, bel_next hB_0ccc hw_0cccc⟩ (fun hHeld => ?_)
    clear hK K
    try simp only [Act.put, List.getElem_toArray, List.getElem_cons_succ, List.getElem_cons_zero, List.setIfInBounds_toArray, List.set_cons_zero, List.set_cons_succ]
    obtain ⟨hP_0cccc, hQ_0cccc, hR_0cccc, hB_0cccc⟩ := id hHeld
    refine wpAnyH_take (i := 7) (oi := _) (v := ?_) rfl (by kernel_rfl) (by kernel_rfl) (by kernel_rfl) (fun _ _ _ h => h) (Or.inl ⟨by rfl, ?_⟩) (by assumption) ?_
    (rotate_left); (focus (intro wv hSw; (obtain ⟨qP, qQ, qR, qB⟩ := hSw); obtain ⟨_, _, _, _, _⟩ := blk2 qP; obtain ⟨_, _, _, _, _, _, _, _, _, _, _⟩ := blk5 qQ; obtain ⟨_, _, _, _, _, _, _⟩ := blk3 qR; go_simp; (try with_reducible rfl)))
    try simp only [Act.put, List.getElem_toArray, List.getElem_cons_succ, List.getElem_cons_zero, List.setIfInBounds_toArray, List.set_cons_zero, List.set_cons_succ]
    refine wpAnyH_done (by kernel_rfl) ?_ _
    go_wp2
    go_ret
    exact ⟨rfl, hB_0cccc⟩

set_option maxRecDepth 100000 in
theorem lifted (os : Os) (started : os.Started) (H : Type) (enc : TypeId × Value → H) :
    ReturnsInHanded {} Try.checked os 4 .any (Rows.fnExactInShadowSpec.pre6 enc Try.prog Try.f4 Rows.fnExactInShadowRow.domain false) (Rows.fnExactInShadowSpec.post enc Try.prog Try.f4 false true false false) := by
  refine returnsInHanded_of_change (C := Try.checked) own started (by kernel_rfl) Try.func4
    (ChangeSpec.witness6 (enc := enc) (C := Try.checked) false ⟨#[], #[.agg #[.int .i64 0, .int .i64 0], .agg #[.int .i64 0, .int .i64 0, .int .i64 0, .int .i64 0, .int .i64 0], .agg #[.int .i64 0, .int .i64 0, .int .i64 0]], []⟩ 8 (by kernel_rfl) (by kernel_rfl) (by kernel_rfl) (by kernel_rfl)) ?_
  intro W base args ds gs before hval0 hW hcnd _
  have hval : ∀ (j : Nat) t v, Try.f4.params[j]? = some t → args[j]? = some v → Value.okWide Try.prog W .any base t v := hval0
  have hW' := hW
  obtain ⟨p, q, hA0, hV, rfl, hfz, hnd⟩ := hW
  have hA : DataW.TrodAll enc Try.prog W 0 (fun _ => true) true Try.f4.params.toList args.toList ds p := hA0
  rw [Try.params4] at hA hval
  obtain ⟨v0, vs0, d0, ds0, p0, q0, hargs, rfl, rfl, h0, r0⟩ := trodAll_cons hA
  obtain ⟨v1, vs1, d1, ds1, p1, q1, rfl, rfl, rfl, h1, r1⟩ := trodAll_cons r0
  obtain ⟨v2, vs2, d2, ds2, p2, q2, rfl, rfl, rfl, h2, r2⟩ := trodAll_cons r1
  obtain ⟨rfl, rfl, rfl⟩ := trodAll_nil r2
  obtain rfl : args = #[v0, v1, v2] := by cases args; simp_all
  obtain ⟨rfl, rfl⟩ := trodVars_none hV
  have k0 := h0
  have lt0 : ∀ x ∈ p0, x.block < W.heap.size := by obtain ⟨m, hm⟩ := k0; exact DataW.trod_lt m _ _ _ hm
  have k1 := h1
  have lt1 : ∀ x ∈ p1, x.block < W.heap.size := by obtain ⟨m, hm⟩ := k1; exact DataW.trod_lt m _ _ _ hm
  have k2 := h2
  have lt2 : ∀ x ∈ p2, x.block < W.heap.size := by obtain ⟨m, hm⟩ := k2; exact DataW.trod_lt m _ _ _ hm
  obtain ⟨⟨a0_0, a0_1⟩, rfl, q0⟩ := openPlace (hval 0 30 v0 rfl rfl) h0
  obtain ⟨⟨a1_0, a1_1, a1_2, a1_3, a1_4⟩, rfl, q1⟩ := openBlock (hval 1 32 v1 rfl rfl) h1
  obtain ⟨⟨a2_0, a2_1, a2_2⟩, rfl, q2⟩ := openRay (hval 2 34 v2 rfl rfl) h2
  clear hA0 hval0
  refine (walk a0_0 a0_1 q0 a1_0 a1_1 a1_2 a1_3 a1_4 q1 a2_0 a2_1 a2_2 q2 W).mono fun e W' ⟨he, bel⟩ => ?_
  subst he
  exact ⟨_, rfl, _, _, _, [], _, [], hW', trodAll_mk1 (shut_bool Try.underlying4 _), (trodAll_cons_mk (Below.trod laidOut (by kernel_rfl) (of_decide_eq_true (by kernel_rfl)) k0 bel lt0) (trodAll_cons_mk (Below.trod laidOut (by kernel_rfl) (of_decide_eq_true (by kernel_rfl)) k1 bel lt1) (trodAll_cons_mk (Below.trod laidOut (by kernel_rfl) (of_decide_eq_true (by kernel_rfl)) k2 bel lt2) trodAll_mk0))), rfl, bel.frame _, fun h => by cases h⟩

theorem over : Rows.fnExactInShadowRow.holds Try.pinned (OpenSpec.ofChange Rows.fnExactInShadowSpec) :=
  OpenClaim.holds_of_wide 4 Try.f4 rfl rfl rfl rfl rfl rfl rfl ⟨rfl, rfl, rfl, rfl, rfl⟩ rfl rfl rfl rfl rfl (by kernel_rfl) Try.func4 (by kernel_rfl)
    (of_decide_eq_true (by kernel_rfl)) (by unfold Func.isWrapper; first | (rw [if_pos (by decide +kernel)]; kernel_rfl) | (rw [if_neg (by decide +kernel)]; exact ⟨rfl, rfl⟩))
    (fun os started H enc _ => lifted os started H enc)

/-- The statement. -/
theorem proved : Rows.FnExactInShadowSaid :=
  over
#print axioms proved
end Go.Proofs.Ytdmfipgmlplkiaa.fnExactInShadow
