/- FnExactLit: whatever the input, the law returns true, and its arguments read as they did. No conditions beyond those of the statement's row. -/
import Derived.Test.YtdmfipgmlplkiaaVl
import Derived.Test.YtdmfipgmlplkiaaGPlace
namespace Go.Proofs.Ytdmfipgmlplkiaa.fnExactLit
open Go.Proofs.Ytdmfipgmlplkiaa
open Go.ChangeShapes Go.WideShapes Go.ChangeAt Go.RowKit Go.Joins
set_option linter.unusedVariables false
set_option linter.unusedSimpArgs false
set_option linter.unnecessarySimpa false

theorem own : ownKnob Try.prog.godebug = none := by kernel_rfl
theorem laidOut : laidOutB Try.prog = true := by kernel_rfl

set_option maxRecDepth 100000 in
set_option maxHeartbeats 4000000 in
theorem walk (w : World) (a0_0 : Int) (a0_1 : Int) (q0 : Wf a0_0 ∧ Wf a0_1) (A1 : Option Addr) (cap1 : Nat) (xs1 : List VBlock) (w1 : SRow encBlock w A1 xs1) (l1 : xs1.length ≤ maxLen) (q1 : ∀ v ∈ xs1, Wf v.1 ∧ Wf v.2.1 ∧ Wf v.2.2.1 ∧ Wf v.2.2.2.1 ∧ Wf v.2.2.2.2) (a2_0 : Int) (a2_1 : Int) (a2_2 : Int) (q2 : Wf a2_0 ∧ Wf a2_1 ∧ Wf a2_2) :
    Calls Try.prog 5 #[.agg #[.int .i64 a0_0, .int .i64 a0_1], .slice A1 xs1.length cap1, .agg #[.int .i64 a2_0, .int .i64 a2_1, .int .i64 a2_2]] w fun e w' => e = .returned (.bool true) ∧ Below w.heap.size w w' := by
  obtain ⟨v, hv⟩ : ∃ v, liB a0_0 a0_1 xs1 a2_0 a2_1 a2_2 = v := ⟨_, rfl⟩
  have HV := Lib.hid hv
  clear hv q0 q1 q2
  have l1' := l1
  unfold maxLen at l1'
  go_enter Try.func5, Try.ntmps5
  go_wp2_with fail
  refine (szBlockS_any A1 _ cap1 1048576 _ (by omega) (by omega) l1).mono ?_; rintro e' w' ⟨r, rfl, hL, rfl⟩
  rcases hL with rfl | ⟨r0, r1, hn⟩
  · go_wp2
    go_ret
    exact ⟨rfl, bel2 _ _ _⟩
  · have hr : ¬ r < 0 := by omega
    have hn2 : xs1.length ≤ 1048576 := by omega
    clear hn
    have hB00 := bel2 w (.cells #[.int .i64 a0_0, .int .i64 a0_1] 30) (.cells #[.int .i64 a2_0, .int .i64 a2_1, .int .i64 a2_2] 34)
    go_wp2_with fail
    refine wp_region_held_drew (S := (fun w' => w'.heap[w.heap.size]? = some (.cells #[.int .i64 a0_0, .int .i64 a0_1] 30) ∧ w'.heap[w.heap.size + 1]? = some (.cells #[.int .i64 a2_0, .int .i64 a2_1, .int .i64 a2_2] 34) ∧ SRow encBlock w' A1 xs1 ∧ Below w.heap.size w w')) (by kernel_rfl) ⟨blk_old (blk_new w _) _, new2 w _ _, w1.next hB00.drew, hB00.drew⟩ (fun hHeld => ?_)
    obtain ⟨hP_0, hQ_0, hA_0, hB_0⟩ := id hHeld
    refine wpAnyH_take (i := 0) (oi := _) (v := ?_) rfl (by kernel_rfl) (by kernel_rfl) (by kernel_rfl) (fun _ _ _ h => h) (Or.inl ⟨by rfl, ?_⟩) (by assumption) ?_
    (rotate_left); (focus (intro wv hSw; (obtain ⟨qP, qQ, qA, qB⟩ := hSw); obtain ⟨u0, u1, _, _, _⟩ := blk2 qP; go_simp; (try with_reducible rfl)))
    try simp only [Act.put, List.getElem_toArray, List.getElem_cons_succ, List.getElem_cons_zero, List.setIfInBounds_toArray, List.set_cons_zero, List.set_cons_succ]
    refine wpAnyH_take (i := 2) (oi := _) (v := ?_) rfl (by kernel_rfl) (by kernel_rfl) (by kernel_rfl) (fun _ _ _ h => h) (Or.inl ⟨by rfl, ?_⟩) (by assumption) ?_
    (rotate_left); (focus (intro wv hSw; (obtain ⟨qP, qQ, qA, qB⟩ := hSw);  go_simp; (try with_reducible rfl)))
    try simp only [Act.put, List.getElem_toArray, List.getElem_cons_succ, List.getElem_cons_zero, List.setIfInBounds_toArray, List.set_cons_zero, List.set_cons_succ]
    refine wpAnyH_take (i := 4) (oi := _) (v := ?_) rfl (by kernel_rfl) (by kernel_rfl) (by kernel_rfl) (fun _ _ _ h => h) (Or.inl ⟨by rfl, ?_⟩) (by assumption) ?_
    (rotate_left); (focus (intro wv hSw; (obtain ⟨qP, qQ, qA, qB⟩ := hSw); obtain ⟨u0, u1, u2, _, _, _, _⟩ := blk3 qQ; go_simp; (try with_reducible rfl)))
    try simp only [Act.put, List.getElem_toArray, List.getElem_cons_succ, List.getElem_cons_zero, List.setIfInBounds_toArray, List.set_cons_zero, List.set_cons_succ]
    refine wpAnyH_ready (rs := [1]) (by kernel_rfl) (by simp) ?_
    refine AllReadyH.cons (o := _) rfl (fun K hK => ?_) AllReadyH.nil
    go_simp
    (go_at_call 17; refine (toPlace_any _ _ _).mono ?_; rintro e x0c ⟨rfl, hw_0c⟩)
    refine hK.out _ _ ⟨blk_next hP_0 hw_0c, blk_next hQ_0 hw_0c, hA_0.next hw_0c, bel_next hB_0 hw_0c⟩ (fun hHeld => ?_)
    clear hK K
    try simp only [Act.put, List.getElem_toArray, List.getElem_cons_succ, List.getElem_cons_zero, List.setIfInBounds_toArray, List.set_cons_zero, List.set_cons_succ]
    obtain ⟨hP_0c, hQ_0c, hA_0c, hB_0c⟩ := id hHeld
    refine wpAnyH_ready (rs := [3]) (by kernel_rfl) (by simp) ?_
    refine AllReadyH.cons (o := _) rfl (fun K hK => ?_) AllReadyH.nil
    go_simp
    (go_at_call 13; refine (toBlockS_any A1 cap1 xs1 _ hA_0c (by omega)).mono ?_; rintro e x0cc ⟨gC, rfl, hgC, hC_0cc, hw_0cc⟩)
    refine hK.out _ _ ⟨blk_next hP_0c hw_0cc, blk_next hQ_0c hw_0cc, hA_0c.next hw_0cc, bel_next hB_0c hw_0cc⟩ (fun hHeld => ?_)
    clear hK K
    try simp only [Act.put, List.getElem_toArray, List.getElem_cons_succ, List.getElem_cons_zero, List.setIfInBounds_toArray, List.set_cons_zero, List.set_cons_succ]
    obtain ⟨hP_0cc, hQ_0cc, hA_0cc, hB_0cc⟩ := id hHeld
    refine wpAnyH_ready (rs := [5]) (by kernel_rfl) (by simp) ?_
    refine AllReadyH.cons (o := _) rfl (fun K hK => ?_) AllReadyH.nil
    go_simp
    (go_at_call 19; refine (toRay_any _ _ _ _).mono ?_; rintro e x0ccc ⟨rfl, hw_0ccc⟩)
    refine hK.out _ _ ⟨blk_next hP_0cc hw_0ccc, blk_next hQ_0cc hw_0ccc, hA_0cc.next hw_0ccc, bel_next hB_0cc hw_0ccc⟩ (fun hHeld => ?_)
    clear hK K
    try simp only [Act.put, List.getElem_toArray, List.getElem_cons_succ, List.getElem_cons_zero, List.setIfInBounds_toArray, List.set_cons_zero, List.set_cons_succ]
    obtain ⟨hP_0ccc, hQ_0ccc, hA_0ccc, hB_0ccc⟩ := id hHeld
    have hC_0ccc := hC_0cc.next hw_0ccc
    refine wpAnyH_ready (rs := [6]) (by kernel_rfl) (by simp) ?_
    refine AllReadyH.cons (o := _) rfl (fun K hK => ?_) AllReadyH.nil
    go_simp
    (go_at_call 21; refine (sLi_is _ _ xs1 _ _ _ _ _ _ rfl hC_0ccc.row (by omega) HV.out).mono ?_; rintro e x0cccc ⟨rfl, hw_0cccc⟩)
    refine hK.out _ _ ⟨blk_next hP_0ccc hw_0cccc, blk_next hQ_0ccc hw_0cccc, hA_0ccc.next hw_0cccc, bel_next hB_0ccc hw_0cccc⟩ (fun hHeld => ?_)
    clear hK K
    try simp only [Act.put, List.getElem_toArray, List.getElem_cons_succ, List.getElem_cons_zero, List.setIfInBounds_toArray, List.set_cons_zero, List.set_cons_succ]
    obtain ⟨hP_0cccc, hQ_0cccc, hA_0cccc, hB_0cccc⟩ := id hHeld
    refine wpAnyH_take (i := 7) (oi := _) (v := ?_) rfl (by kernel_rfl) (by kernel_rfl) (by kernel_rfl) (fun _ _ _ h => h) (Or.inl ⟨by rfl, ?_⟩) (by assumption) ?_
    (rotate_left); (focus (intro wv hSw; (obtain ⟨qP, qQ, qA, qB⟩ := hSw);  go_simp; (try with_reducible rfl)))
    try simp only [Act.put, List.getElem_toArray, List.getElem_cons_succ, List.getElem_cons_zero, List.setIfInBounds_toArray, List.set_cons_zero, List.set_cons_succ]
    refine wpAnyH_done (by kernel_rfl) ?_ _
    have hP0 := hP_0cccc
    have hQ0 := hQ_0cccc
    have hA0 := hA_0cccc
    have hB0 := hB_0cccc
    clear hB00
    go_wp2_with fail
    refine (toBlockS_any A1 cap1 xs1 _ hA0 (by omega)).mono ?_; rintro e' w1 ⟨gD, rfl, hgD, hD1, hw1⟩
    have hP1 := blk_next hP0 hw1
    have hQ1 := blk_next hQ0 hw1
    have hA1 := hA0.next hw1
    have hB1 := bel_next hB0 hw1
    go_wp2_with fail
    refine wp_region_held_drew (S := (fun w' => w'.heap[w.heap.size]? = some (.cells #[.int .i64 a0_0, .int .i64 a0_1] 30) ∧ w'.heap[w.heap.size + 1]? = some (.cells #[.int .i64 a2_0, .int .i64 a2_1, .int .i64 a2_2] 34) ∧ SRow encBlock w' A1 xs1 ∧ SBlk encBlock w' gD 38 xs1 ∧ Below w.heap.size w w')) (by kernel_rfl) ⟨hP1, hQ1, hA1, hD1, hB1.drew⟩ (fun hHeld => ?_)
    obtain ⟨hP_0, hQ_0, hA_0, hD_0, hB_0⟩ := id hHeld
    refine wpAnyH_take (i := 0) (oi := _) (v := ?_) rfl (by kernel_rfl) (by kernel_rfl) (by kernel_rfl) (fun _ _ _ h => h) (Or.inl ⟨by rfl, ?_⟩) (by assumption) ?_
    (rotate_left); (focus (intro wv hSw; (obtain ⟨qP, qQ, qA, qD, qB⟩ := hSw); obtain ⟨u0, u1, _, _, _⟩ := blk2 qP; go_simp; (try with_reducible rfl)))
    try simp only [Act.put, List.getElem_toArray, List.getElem_cons_succ, List.getElem_cons_zero, List.setIfInBounds_toArray, List.set_cons_zero, List.set_cons_succ]
    refine wpAnyH_take (i := 2) (oi := _) (v := ?_) rfl (by kernel_rfl) (by kernel_rfl) (by kernel_rfl) (fun _ _ _ h => h) (Or.inl ⟨by rfl, ?_⟩) (by assumption) ?_
    (rotate_left); (focus (intro wv hSw; (obtain ⟨qP, qQ, qA, qD, qB⟩ := hSw);  go_simp; (try with_reducible rfl)))
    try simp only [Act.put, List.getElem_toArray, List.getElem_cons_succ, List.getElem_cons_zero, List.setIfInBounds_toArray, List.set_cons_zero, List.set_cons_succ]
    refine wpAnyH_take (i := 3) (oi := _) (v := ?_) rfl (by kernel_rfl) (by kernel_rfl) (by kernel_rfl) (fun _ _ _ h => h) (Or.inl ⟨by rfl, ?_⟩) (by assumption) ?_
    (rotate_left); (focus (intro wv hSw; (obtain ⟨qP, qQ, qA, qD, qB⟩ := hSw); obtain ⟨u0, u1, u2, _, _, _, _⟩ := blk3 qQ; go_simp; (try with_reducible rfl)))
    try simp only [Act.put, List.getElem_toArray, List.getElem_cons_succ, List.getElem_cons_zero, List.setIfInBounds_toArray, List.set_cons_zero, List.set_cons_succ]
    refine wpAnyH_ready (rs := [1]) (by kernel_rfl) (by simp) ?_
    refine AllReadyH.cons (o := _) rfl (fun K hK => ?_) AllReadyH.nil
    go_simp
    (go_at_call 17; refine (toPlace_any _ _ _).mono ?_; rintro e x0c ⟨rfl, hw_0c⟩)
    refine hK.out _ _ ⟨blk_next hP_0 hw_0c, blk_next hQ_0 hw_0c, hA_0.next hw_0c, hD_0.next hw_0c, bel_next hB_0 hw_0c⟩ (fun hHeld => ?_)
    clear hK K
    try simp only [Act.put, List.getElem_toArray, List.getElem_cons_succ, List.getElem_cons_zero, List.setIfInBounds_toArray, List.set_cons_zero, List.set_cons_succ]
    obtain ⟨hP_0c, hQ_0c, hA_0c, hD_0c, hB_0c⟩ := id hHeld
    refine wpAnyH_ready (rs := [4]) (by kernel_rfl) (by simp) ?_
    refine AllReadyH.cons (o := _) rfl (fun K hK => ?_) AllReadyH.nil
    go_simp
    (go_at_call 19; refine (toRay_any _ _ _ _).mono ?_; rintro e x0cc ⟨rfl, hw_0cc⟩)
    refine hK.out _ _ ⟨blk_next hP_0c hw_0cc, blk_next hQ_0c hw_0cc, hA_0c.next hw_0cc, hD_0c.next hw_0cc, bel_next hB_0c hw_0cc⟩ (fun hHeld => ?_)
    clear hK K
    try simp only [Act.put, List.getElem_toArray, List.getElem_cons_succ, List.getElem_cons_zero, List.setIfInBounds_toArray, List.set_cons_zero, List.set_cons_succ]
    obtain ⟨hP_0cc, hQ_0cc, hA_0cc, hD_0cc, hB_0cc⟩ := id hHeld
    refine wpAnyH_ready (rs := [5]) (by kernel_rfl) (by simp) ?_
    refine AllReadyH.cons (o := _) rfl (fun K hK => ?_) AllReadyH.nil
    go_simp
    (go_at_call 22; refine (iLi_is _ _ xs1 _ _ _ _ _ _ rfl hD_0cc.row (by omega) HV.out).mono ?_; rintro e x0ccc ⟨rfl, hw_0ccc⟩)
    refine hK.out _ _ ⟨blk_next hP_0cc hw_0ccc, blk_next hQ_0cc hw_0ccc, hA_0cc.next hw_0ccc, hD_0cc.next hw_0ccc, bel_next hB_0cc hw_0ccc⟩ (fun hHeld => ?_)
    clear hK K
    try simp only [Act.put, List.getElem_toArray, List.getElem_cons_succ, List.getElem_cons_zero, List.setIfInBounds_toArray, List.set_cons_zero, List.set_cons_succ]
    obtain ⟨hP_0ccc, hQ_0ccc, hA_0ccc, hD_0ccc, hB_0ccc⟩ := id hHeld
    refine wpAnyH_take (i := 6) (oi := _) (v := ?_) rfl (by kernel_rfl) (by kernel_rfl) (by kernel_rfl) (fun _ _ _ h => h) (Or.inl ⟨by rfl, ?_⟩) (by assumption) ?_
    (rotate_left); (focus (intro wv hSw; (obtain ⟨qP, qQ, qA, qD, qB⟩ := hSw);  go_simp; (try with_reducible rfl)))
    try simp only [Act.put, List.getElem_toArray, List.getElem_cons_succ, List.getElem_cons_zero, List.setIfInBounds_toArray, List.set_cons_zero, List.set_cons_succ]
    refine wpAnyH_done (by kernel_rfl) ?_ _
    have hP2 := hP_0ccc
    have hQ2 := hQ_0ccc
    have hA2 := hA_0ccc
    have hD2 := hD_0ccc
    have hB2 := hB_0ccc
    go_wp2_with fail
    refine (toBlockS_any A1 cap1 xs1 _ hA2 (by omega)).mono ?_; rintro e' w3 ⟨gE, rfl, hgE, hE3, hw3⟩
    have hP3 := blk_next hP2 hw3
    have hQ3 := blk_next hQ2 hw3
    have hA3 := hA2.next hw3
    have hD3 := hD2.next hw3
    have hB3 := bel_next hB2 hw3
    go_wp2_with fail
    refine (eqBlockS_same _ _ _ _ xs1 rfl hD3.row hE3.row (by omega)).mono ?_; rintro e' w4 ⟨rfl, hw4⟩
    have hP4 := blk_next hP3 hw4
    have hQ4 := blk_next hQ3 hw4
    have hA4 := hA3.next hw4
    have hD4 := hD3.next hw4
    have hE4 := hE3.next hw4
    have hB4 := bel_next hB3 hw4
    cases v
    all_goals
      go_wp2
      go_ret
      exact ⟨rfl, by first | exact hB4 | exact hB4.drew⟩

set_option maxRecDepth 100000 in
theorem lifted (os : Os) (started : os.Started) (H : Type) (enc : TypeId × Value → H) :
    ReturnsInHanded {} Try.checked os 5 .any (Rows.fnExactLitSpec.pre6 enc Try.prog Try.f5 Rows.fnExactLitRow.domain false) (Rows.fnExactLitSpec.post enc Try.prog Try.f5 false true false false) := by
  refine returnsInHanded_of_change (C := Try.checked) own started (by kernel_rfl) Try.func5
    (ChangeSpec.witness6 (enc := enc) (C := Try.checked) false ⟨#[], #[.agg #[.int .i64 0, .int .i64 0], .slice none 0 0, .agg #[.int .i64 0, .int .i64 0, .int .i64 0]], []⟩ 8 (by kernel_rfl) (by kernel_rfl) (by kernel_rfl) (by kernel_rfl)) ?_
  intro W base args ds gs before hval0 hW hcnd _
  have hval : ∀ (j : Nat) t v, Try.f5.params[j]? = some t → args[j]? = some v → Value.okWide Try.prog W .any base t v := hval0
  have hW' := hW
  obtain ⟨p, q, hA0, hV, rfl, hfz, hnd⟩ := hW
  have hA : DataW.TrodAll enc Try.prog W 0 (fun _ => true) true Try.f5.params.toList args.toList ds p := hA0
  rw [Try.params5] at hA hval
  obtain ⟨v0, vs0, d0, ds0, p0, q0, hargs, rfl, rfl, h0, r0⟩ := trodAll_cons hA
  obtain ⟨v1, vs1, d1, ds1, p1, q1, rfl, rfl, rfl, h1, r1⟩ := trodAll_cons r0
  obtain ⟨v2, vs2, d2, ds2, p2, q2, rfl, rfl, rfl, h2, r2⟩ := trodAll_cons r1
  obtain ⟨rfl, rfl, rfl⟩ := trodAll_nil r2
  obtain rfl : args = #[v0, v1, v2] := by cases args; simp_all
  obtain ⟨rfl, rfl⟩ := trodVars_none hV
  have k0 := h0
  have lt0 : ∀ x ∈ p0, x.block < W.heap.size := by obtain ⟨m, hm⟩ := k0; exact DataW.trod_lt m _ _ _ hm
  have k1 := h1
  have lt1 : ∀ x ∈ p1, x.block < W.heap.size := by obtain ⟨m, hm⟩ := k1; exact DataW.trod_lt m _ _ _ hm
  have k2 := h2
  have lt2 : ∀ x ∈ p2, x.block < W.heap.size := by obtain ⟨m, hm⟩ := k2; exact DataW.trod_lt m _ _ _ hm
  obtain ⟨⟨a0_0, a0_1⟩, rfl, q0⟩ := openPlace (hval 0 30 v0 rfl rfl) h0
  obtain ⟨A1, len1, cap1, rfl⟩ := okWide_slice Try.underlying22 (hval 1 22 v1 rfl rfl)
  obtain ⟨xs1, w1, l1, q1, hlen1⟩ : ∃ xs, SRow encBlock W A1 xs ∧ xs.length ≤ maxLen ∧ (∀ v ∈ xs, Wf v.1 ∧ Wf v.2.1 ∧ Wf v.2.2.1 ∧ Wf v.2.2.2.1 ∧ Wf v.2.2.2.2) ∧ xs.length = len1 := by
    obtain ⟨fuel, hf⟩ := h1
    obtain ⟨A, cap, xs, hcs, hl, hr, hq⟩ := openBlockS hf
    simp [Value.cells] at hcs
    obtain ⟨rfl, hn, rfl⟩ := hcs
    exact ⟨xs, hr, hl, hq, hn.symm⟩
  subst hlen1
  obtain ⟨⟨a2_0, a2_1, a2_2⟩, rfl, q2⟩ := openRay (hval 2 34 v2 rfl rfl) h2
  clear hA0 hval0
  refine (walk W a0_0 a0_1 q0 A1 cap1 xs1 w1 l1 q1 a2_0 a2_1 a2_2 q2).mono fun e W' ⟨he, bel⟩ => ?_
  subst he
  exact ⟨_, rfl, _, _, _, [], _, [], hW', trodAll_mk1 (shut_bool Try.underlying4 _), (trodAll_cons_mk (Below.trod laidOut (by kernel_rfl) (of_decide_eq_true (by kernel_rfl)) k0 bel lt0) (trodAll_cons_mk (Below.trod laidOut (by kernel_rfl) (of_decide_eq_true (by kernel_rfl)) k1 bel lt1) (trodAll_cons_mk (Below.trod laidOut (by kernel_rfl) (of_decide_eq_true (by kernel_rfl)) k2 bel lt2) trodAll_mk0))), rfl, bel.frame _, fun h => by cases h⟩

theorem over : Rows.fnExactLitRow.holds Try.pinned (OpenSpec.ofChange Rows.fnExactLitSpec) :=
  OpenClaim.holds_of_wide 5 Try.f5 rfl rfl rfl rfl rfl rfl rfl ⟨rfl, rfl, rfl, rfl, rfl⟩ rfl rfl rfl rfl rfl (by kernel_rfl) Try.func5 (by kernel_rfl)
    (of_decide_eq_true (by kernel_rfl)) (by unfold Func.isWrapper; first | (rw [if_pos (by decide +kernel)]; kernel_rfl) | (rw [if_neg (by decide +kernel)]; exact ⟨rfl, rfl⟩))
    (fun os started H enc _ => lifted os started H enc)

/-- The statement. -/
theorem proved : Rows.FnExactLitSaid :=
  over
#print axioms proved
end Go.Proofs.Ytdmfipgmlplkiaa.fnExactLit
