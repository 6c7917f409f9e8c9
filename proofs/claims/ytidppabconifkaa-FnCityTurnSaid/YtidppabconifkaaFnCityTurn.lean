/- FnCityTurn: whatever the input, the law returns true, and its arguments read as they did. No conditions beyond those of the statement's row. -/
import Derived.Test.YtidppabconifkaaYe
import Derived.Test.YtidppabconifkaaYh
import Derived.Test.YtidppabconifkaaLp
namespace Go.Proofs.Ytidppabconifkaa.fnCityTurn
open Go.Proofs.Ytidppabconifkaa
open Go.ChangeShapes Go.WideShapes Go.ChangeAt Go.RowKit Go.Joins
set_option linter.unusedVariables false
set_option linter.unusedSimpArgs false
set_option linter.unnecessarySimpa false

theorem own : ownKnob Try.prog.godebug = none := by kernel_rfl
theorem laidOut : laidOutB Try.prog = true := by kernel_rfl

set_option maxRecDepth 100000 in
set_option maxHeartbeats 4000000 in
theorem walk (w : World) (a0 : Option Addr) (len0 cap0 : Nat) (w0 : CodeOk w a0 len0 cap0) :
    Calls Try.prog 9 #[.slice a0 len0 cap0] w fun e w' => e = .returned (.bool true) ∧ Below w.heap.size w w' := by
  by_cases hl : 1048576 < len0
  · have w0' := w0.2.1
    unfold maxLen at w0'
    clear w0
    go_enter Try.func9, Try.ntmps9
    go_wp2
    go_ret
    exact ⟨rfl, Below.refl _ _⟩
  · have w0' := w0.2.1
    unfold maxLen at w0'
    have hle := w0.1
    have HW := Lib.hid w0
    clear w0
    go_enter Try.func9, Try.ntmps9
    go_wp2_with fail
    refine (drCityTurn_any _ _ _ _ HW.out).mono ?_; rintro e w1 ⟨d, xs, A, cp, rfl, ⟨d0, d1⟩, hx6, hO0, hB0⟩
    obtain ⟨m, hm⟩ : ∃ m, xs.length = m := ⟨_, rfl⟩
    rw [hm] at hx6 ⊢
    have HM := Lib.hid hm
    clear hm
    cases hv : cvB d xs
    · have HTL : Hid (ctL d xs = []) := Lib.hid ((ct_no hv).1)
      have HTD : Hid (ctD d xs = 0) := Lib.hid ((ct_no hv).2)
      have HV := Lib.hid hv
      clear hv
      have hP1 : (w1.alloc (.cells #[.int .i64 d, .slice A m cp] 25)).heap[w1.heap.size]? = some (.cells #[.int .i64 d, .slice A m cp] 25) := by have := blk_new (w1) (.cells #[.int .i64 d, .slice A m cp] 25); simpa using this
      have hB1 := hB0.alloc hB0.size (.cells #[.int .i64 d, .slice A m cp] 25)
      have hO1 := hO0.next (bel1 _ (.cells #[.int .i64 d, .slice A m cp] 25))
      have zBP := hB0.size
      obtain ⟨cP1_0, cP1_1, fP1_0, fP1_1, zP1⟩ := blk2 hP1
      go_wp2_with fail
      refine (iCt_len d A cp xs _ HM.out hO1.row (by omega) HTD.out HTL.out rfl).mono ?_; rintro e' w2 ⟨V, cv, rfl, hV2, hw2⟩
      have hP2 := blk_next hP1 hw2
      have hO2 := hO1.next hw2
      have hB2 := bel_next hB1 hw2
      have hV2 := hV2.mono (base' := w.heap.size) hB1.size
      have zPQ := blk_lt hP2
      have hQ3 : (w2.alloc (.cells #[.int .i64 0, .slice V 0 cv] 25)).heap[w2.heap.size]? = some (.cells #[.int .i64 0, .slice V 0 cv] 25) := by have := blk_new (w2) (.cells #[.int .i64 0, .slice V 0 cv] 25); simpa using this
      have hP3 := blk_old hP2 (.cells #[.int .i64 0, .slice V 0 cv] 25)
      have hB3 := hB2.alloc hB2.size (.cells #[.int .i64 0, .slice V 0 cv] 25)
      have hO3 := hO2.next (bel1 _ (.cells #[.int .i64 0, .slice V 0 cv] 25))
      have hV3 := hV2.next (bel1 _ (.cells #[.int .i64 0, .slice V 0 cv] 25))
      have zBQ := hB2.size
      obtain ⟨cP3_0, cP3_1, fP3_0, fP3_1, zP3⟩ := blk2 hP3
      obtain ⟨cQ3_0, cQ3_1, fQ3_0, fQ3_1, zQ3⟩ := blk2 hQ3
      go_wp2_with fail
      refine wp_region_held_drew (S := (fun w' => w'.heap[w1.heap.size]? = some (.cells #[.int .i64 d, .slice A m cp] 25) ∧ w'.heap[w2.heap.size]? = some (.cells #[.int .i64 0, .slice V 0 cv] 25) ∧ SOwn encNum w' w.heap.size 3 A cp xs ∧ SOwn encNum w' w.heap.size 3 V cv [] ∧ Below w.heap.size w w')) (by kernel_rfl) ⟨hP3, hQ3, hO3.drew, hV3.drew, hB3.drew⟩ (fun hHeld => ?_)
      obtain ⟨hP_0, hQ_0, hO_0, hV_0, hB_0⟩ := id hHeld
      refine wpAnyH_take (i := 0) (oi := _) (v := ?_) rfl (by kernel_rfl) (by kernel_rfl) (by kernel_rfl) (fun _ _ _ h => h) (Or.inl ⟨by rfl, ?_⟩) (by assumption) ?_
      (rotate_left); (focus (intro wv hSw; (obtain ⟨qP, qQ, qO, qV, qB⟩ := hSw); obtain ⟨u0_, u1_, _, _, _⟩ := blk2 qP; obtain ⟨v0_, v1_, _, _, _⟩ := blk2 qQ; go_simp; (try with_reducible rfl)))
      try simp only [Act.put, List.getElem_toArray, List.getElem_cons_succ, List.getElem_cons_zero, List.setIfInBounds_toArray, List.set_cons_zero, List.set_cons_succ]
      refine wpAnyH_take (i := 1) (oi := _) (v := ?_) rfl (by kernel_rfl) (by kernel_rfl) (by kernel_rfl) (fun _ _ _ h => h) (Or.inl ⟨by rfl, ?_⟩) (by assumption) ?_
      (rotate_left); (focus (intro wv hSw; (obtain ⟨qP, qQ, qO, qV, qB⟩ := hSw); obtain ⟨u0_, u1_, _, _, _⟩ := blk2 qP; obtain ⟨v0_, v1_, _, _, _⟩ := blk2 qQ; go_simp; (try with_reducible rfl)))
      try simp only [Act.put, List.getElem_toArray, List.getElem_cons_succ, List.getElem_cons_zero, List.setIfInBounds_toArray, List.set_cons_zero, List.set_cons_succ]
      refine wpAnyH_ready (rs := [2]) (by kernel_rfl) (by simp) ?_
      refine AllReadyH.cons (o := _) rfl (fun K hK => ?_) AllReadyH.nil
      go_simp
      (go_at_call 38; refine (sCt_len d A cp xs _ HM.out hO_0.row (by omega) HTD.out HTL.out rfl).mono ?_; rintro e x0c ⟨U, cu, rfl, hU9, hw_0c⟩)
      refine hK.out _ _ ⟨blk_next hP_0 hw_0c, blk_next hQ_0 hw_0c, hO_0.next hw_0c, hV_0.next hw_0c, bel_next hB_0 hw_0c⟩ (fun hHeld => ?_)
      clear hK K
      try simp only [Act.put, List.getElem_toArray, List.getElem_cons_succ, List.getElem_cons_zero, List.setIfInBounds_toArray, List.set_cons_zero, List.set_cons_succ]
      obtain ⟨hP_0c, hQ_0c, hO_0c, hV_0c, hB_0c⟩ := id hHeld
      refine wpAnyH_ready (rs := [3]) (by kernel_rfl) (by simp) ?_
      refine AllReadyH.cons (o := _) rfl (fun K hK => ?_) AllReadyH.nil
      go_simp
      (go_at_call 35; refine (sameCity_is (n := 0) 0 V U cv cu [] rfl hV_0c.row hU9.row (by omega)).mono ?_; rintro e x0cc ⟨rfl, hw_0cc⟩)
      refine hK.out _ _ ⟨blk_next hP_0c hw_0cc, blk_next hQ_0c hw_0cc, hO_0c.next hw_0cc, hV_0c.next hw_0cc, bel_next hB_0c hw_0cc⟩ (fun hHeld => ?_)
      clear hK K
      try simp only [Act.put, List.getElem_toArray, List.getElem_cons_succ, List.getElem_cons_zero, List.setIfInBounds_toArray, List.set_cons_zero, List.set_cons_succ]
      obtain ⟨hP_0cc, hQ_0cc, hO_0cc, hV_0cc, hB_0cc⟩ := id hHeld
      refine wpAnyH_take (i := 4) (oi := _) (v := ?_) rfl (by kernel_rfl) (by kernel_rfl) (by kernel_rfl) (fun _ _ _ h => h) (Or.inl ⟨by rfl, ?_⟩) (by assumption) ?_
      (rotate_left); (focus (intro wv hSw; (obtain ⟨qP, qQ, qO, qV, qB⟩ := hSw);  go_simp; (try with_reducible rfl)))
      try simp only [Act.put, List.getElem_toArray, List.getElem_cons_succ, List.getElem_cons_zero, List.setIfInBounds_toArray, List.set_cons_zero, List.set_cons_succ]
      refine wpAnyH_done (by kernel_rfl) ?_ _
      obtain ⟨x0_, x1_, _, _, _⟩ := blk2 hP_0cc
      obtain ⟨y0_, y1_, _, _, _⟩ := blk2 hQ_0cc
      go_wp2_with fail
      refine (iCv_is d A cp xs _ HM.out hO_0cc.row (by omega) HV.out).mono ?_; rintro e' w9 ⟨rfl, hw9⟩
      have hP9 := blk_next hP_0cc hw9
      have hQ9 := blk_next hQ_0cc hw9
      have hB9 := bel_next hB_0cc hw9
      obtain ⟨x2_, x3_, _, _, _⟩ := blk2 hP9
      obtain ⟨y2_, y3_, _, _, _⟩ := blk2 hQ9
      go_wp2_with fail
      refine (alive_any _).mono ?_; rintro e' w' ⟨rfl, rfl⟩
      go_wp2
      go_ret
      exact ⟨rfl, hB9⟩
    · have hs := cv_sq hv
      obtain ⟨hm1, hm36⟩ := cv_len hv
      rw [HM.out] at hm1 hm36
      obtain ⟨l, hl⟩ : ∃ l, ct1 d xs = l := ⟨_, rfl⟩
      obtain ⟨l2, hl2⟩ : ∃ l2, ct1 d l = l2 := ⟨_, rfl⟩
      obtain ⟨l3, hl3⟩ : ∃ l3, ct1 d l2 = l3 := ⟨_, rfl⟩
      have hv1 : cvB d l = true := by rw [← hl]; exact ct1_cv hv
      have hv2 : cvB d l2 = true := by rw [← hl2]; exact ct1_cv hv1
      have hv3 : cvB d l3 = true := by rw [← hl3]; exact ct1_cv hv2
      have h4 : ct1 d l3 = xs := by rw [← hl3, ← hl2, ← hl]; exact ct1_four hs
      have HTD : Hid (ctD d xs = d) := Lib.hid (ctD_yes hv)
      have HTL : Hid (ctL d xs = l) := Lib.hid ((ctL_ct1 hv).trans hl)
      have HT2D : Hid (ctD d l = d) := Lib.hid (ctD_yes hv1)
      have HT2L : Hid (ctL d l = l2) := Lib.hid ((ctL_ct1 hv1).trans hl2)
      have HT3D : Hid (ctD d l2 = d) := Lib.hid (ctD_yes hv2)
      have HT3L : Hid (ctL d l2 = l3) := Lib.hid ((ctL_ct1 hv2).trans hl3)
      have HT4D : Hid (ctD d l3 = d) := Lib.hid (ctD_yes hv3)
      have HT4L : Hid (ctL d l3 = xs) := Lib.hid ((ctL_ct1 hv3).trans h4)
      have HN1 : Hid (l.length = m) := Lib.hid (by rw [← hl, ct1_len, HM.out])
      have HN2 : Hid (l2.length = m) := Lib.hid (by rw [← hl2, ct1_len, HN1.out])
      have HN3 : Hid (l3.length = m) := Lib.hid (by rw [← hl3, ct1_len, HN2.out])
      have HV := Lib.hid hv
      have HV1 := Lib.hid hv1
      have hd1 : 1 ≤ d := hs.1
      obtain ⟨j, hj⟩ : ∃ j : Nat, d = (j : Int) + 1 := ⟨(d - 1).toNat, by omega⟩
      have hjm : j < m := by have h9 := hs.2.2; rw [HM.out] at h9; have : d * 1 ≤ d * d := Int.mul_le_mul_of_nonneg_left hd1 (by omega); omega
      have hco := ct1_corner hs
      rw [hl, hj, show ((j : Int) + 1 - 1).toNat = j by omega, show l.getD j 0 = l[j]'(by rw [HN1.out]; exact hjm) by simp [HN1.out, hjm], show xs.getD 0 0 = xs[0]'(by rw [HM.out]; omega) by simp [HM.out, (show 0 < m by omega)]] at hco
      obtain ⟨v, hvv⟩ : ∃ v, xs[0]'(by rw [HM.out]; omega) = v := ⟨_, rfl⟩
      rw [hvv] at hco
      have HCO := Lib.hid hco
      have HVV := Lib.hid hvv
      have hjmi : (j : Int) < (m : Int) := by omega
      have hm0 : (0 : Int) < (m : Int) := by omega
      have hm0n : 0 < m := by omega
      have HDJ : Hid (IntKind.i64.wrap (d - 1) = (j : Int)) := Lib.hid (by rw [IntWalk.i64_in _ (by omega)]; omega)
      clear hv hs hl hl2 hl3 hv1 hv2 hv3 h4 hco hvv hj
      have hP1 : (w1.alloc (.cells #[.int .i64 d, .slice A m cp] 25)).heap[w1.heap.size]? = some (.cells #[.int .i64 d, .slice A m cp] 25) := by have := blk_new (w1) (.cells #[.int .i64 d, .slice A m cp] 25); simpa using this
      have hB1 := hB0.alloc hB0.size (.cells #[.int .i64 d, .slice A m cp] 25)
      have hO1 := hO0.next (bel1 _ (.cells #[.int .i64 d, .slice A m cp] 25))
      have zBP := hB0.size
      obtain ⟨cP1_0, cP1_1, fP1_0, fP1_1, zP1⟩ := blk2 hP1
      go_wp2_with fail
      refine (iCt_len d A cp xs _ HM.out hO1.row (by omega) HTD.out HTL.out HN1.out).mono ?_; rintro e' w2 ⟨V, cv, rfl, hV2, hw2⟩
      have hP2 := blk_next hP1 hw2
      have hO2 := hO1.next hw2
      have hB2 := bel_next hB1 hw2
      have hV2 := hV2.mono (base' := w.heap.size) hB1.size
      have zPQ := blk_lt hP2
      have hQ3 : (w2.alloc (.cells #[.int .i64 d, .slice V m cv] 25)).heap[w2.heap.size]? = some (.cells #[.int .i64 d, .slice V m cv] 25) := by have := blk_new (w2) (.cells #[.int .i64 d, .slice V m cv] 25); simpa using this
      have hP3 := blk_old hP2 (.cells #[.int .i64 d, .slice V m cv] 25)
      have hB3 := hB2.alloc hB2.size (.cells #[.int .i64 d, .slice V m cv] 25)
      have hO3 := hO2.next (bel1 _ (.cells #[.int .i64 d, .slice V m cv] 25))
      have hV3 := hV2.next (bel1 _ (.cells #[.int .i64 d, .slice V m cv] 25))
      have zBQ := hB2.size
      obtain ⟨cP3_0, cP3_1, fP3_0, fP3_1, zP3⟩ := blk2 hP3
      obtain ⟨cQ3_0, cQ3_1, fQ3_0, fQ3_1, zQ3⟩ := blk2 hQ3
      go_wp2_with fail
      refine wp_region_held_drew (S := (fun w' => w'.heap[w1.heap.size]? = some (.cells #[.int .i64 d, .slice A m cp] 25) ∧ w'.heap[w2.heap.size]? = some (.cells #[.int .i64 d, .slice V m cv] 25) ∧ SOwn encNum w' w.heap.size 3 A cp xs ∧ SOwn encNum w' w.heap.size 3 V cv l ∧ Below w.heap.size w w')) (by kernel_rfl) ⟨hP3, hQ3, hO3.drew, hV3.drew, hB3.drew⟩ (fun hHeld => ?_)
      obtain ⟨hP_0, hQ_0, hO_0, hV_0, hB_0⟩ := id hHeld
      refine wpAnyH_take (i := 0) (oi := _) (v := ?_) rfl (by kernel_rfl) (by kernel_rfl) (by kernel_rfl) (fun _ _ _ h => h) (Or.inl ⟨by rfl, ?_⟩) (by assumption) ?_
      (rotate_left); (focus (intro wv hSw; (obtain ⟨qP, qQ, qO, qV, qB⟩ := hSw); obtain ⟨u0_, u1_, _, _, _⟩ := blk2 qP; obtain ⟨v0_, v1_, _, _, _⟩ := blk2 qQ; go_simp; (try with_reducible rfl)))
      try simp only [Act.put, List.getElem_toArray, List.getElem_cons_succ, List.getElem_cons_zero, List.setIfInBounds_toArray, List.set_cons_zero, List.set_cons_succ]
      refine wpAnyH_take (i := 1) (oi := _) (v := ?_) rfl (by kernel_rfl) (by kernel_rfl) (by kernel_rfl) (fun _ _ _ h => h) (Or.inl ⟨by rfl, ?_⟩) (by assumption) ?_
      (rotate_left); (focus (intro wv hSw; (obtain ⟨qP, qQ, qO, qV, qB⟩ := hSw); obtain ⟨u0_, u1_, _, _, _⟩ := blk2 qP; obtain ⟨v0_, v1_, _, _, _⟩ := blk2 qQ; go_simp; (try with_reducible rfl)))
      try simp only [Act.put, List.getElem_toArray, List.getElem_cons_succ, List.getElem_cons_zero, List.setIfInBounds_toArray, List.set_cons_zero, List.set_cons_succ]
      refine wpAnyH_ready (rs := [2]) (by kernel_rfl) (by simp) ?_
      refine AllReadyH.cons (o := _) rfl (fun K hK => ?_) AllReadyH.nil
      go_simp
      (go_at_call 38; refine (sCt_len d A cp xs _ HM.out hO_0.row (by omega) HTD.out HTL.out HN1.out).mono ?_; rintro e x0c ⟨U, cu, rfl, hU9, hw_0c⟩)
      refine hK.out _ _ ⟨blk_next hP_0 hw_0c, blk_next hQ_0 hw_0c, hO_0.next hw_0c, hV_0.next hw_0c, bel_next hB_0 hw_0c⟩ (fun hHeld => ?_)
      clear hK K
      try simp only [Act.put, List.getElem_toArray, List.getElem_cons_succ, List.getElem_cons_zero, List.setIfInBounds_toArray, List.set_cons_zero, List.set_cons_succ]
      obtain ⟨hP_0c, hQ_0c, hO_0c, hV_0c, hB_0c⟩ := id hHeld
      refine wpAnyH_ready (rs := [3]) (by kernel_rfl) (by simp) ?_
      refine AllReadyH.cons (o := _) rfl (fun K hK => ?_) AllReadyH.nil
      go_simp
      (go_at_call 35; refine (sameCity_is (n := m) d V U cv cu l HN1.out hV_0c.row hU9.row (by omega)).mono ?_; rintro e x0cc ⟨rfl, hw_0cc⟩)
      refine hK.out _ _ ⟨blk_next hP_0c hw_0cc, blk_next hQ_0c hw_0cc, hO_0c.next hw_0cc, hV_0c.next hw_0cc, bel_next hB_0c hw_0cc⟩ (fun hHeld => ?_)
      clear hK K
      try simp only [Act.put, List.getElem_toArray, List.getElem_cons_succ, List.getElem_cons_zero, List.setIfInBounds_toArray, List.set_cons_zero, List.set_cons_succ]
      obtain ⟨hP_0cc, hQ_0cc, hO_0cc, hV_0cc, hB_0cc⟩ := id hHeld
      refine wpAnyH_take (i := 4) (oi := _) (v := ?_) rfl (by kernel_rfl) (by kernel_rfl) (by kernel_rfl) (fun _ _ _ h => h) (Or.inl ⟨by rfl, ?_⟩) (by assumption) ?_
      (rotate_left); (focus (intro wv hSw; (obtain ⟨qP, qQ, qO, qV, qB⟩ := hSw);  go_simp; (try with_reducible rfl)))
      try simp only [Act.put, List.getElem_toArray, List.getElem_cons_succ, List.getElem_cons_zero, List.setIfInBounds_toArray, List.set_cons_zero, List.set_cons_succ]
      refine wpAnyH_done (by kernel_rfl) ?_ _
      obtain ⟨x0_, x1_, _, _, _⟩ := blk2 hP_0cc
      obtain ⟨y0_, y1_, _, _, _⟩ := blk2 hQ_0cc
      go_wp2_with fail
      refine (iCv_is d A cp xs _ HM.out hO_0cc.row (by omega) HV.out).mono ?_; rintro e' w9 ⟨rfl, hw9⟩
      have hP9 := blk_next hP_0cc hw9
      have hQ9 := blk_next hQ_0cc hw9
      have hO9 := hO_0cc.next hw9
      have hV9 := hV_0cc.next hw9
      have hB9 := bel_next hB_0cc hw9
      obtain ⟨b1, off1, rfl, _, cA⟩ := rowNum hO9.row (show 0 < xs.length by rw [HM.out]; exact hm0n)
      obtain ⟨b2, off2, rfl, _, cV⟩ := rowNum hV9.row (show j < l.length by rw [HN1.out]; exact hjm)
      rw [HVV.out] at cA
      rw [Nat.add_zero] at cA
      rw [HCO.out] at cV
      clear hP_0 hQ_0 hO_0 hV_0 hB_0 hP_0c hQ_0c hO_0c hV_0c hB_0c hP_0cc hQ_0cc hO_0cc hV_0cc hB_0cc x0_ x1_ y0_ y1_ hHeld hU9
      have hdj := HDJ.out
      go_wp2_with fail
      refine wp_region_held_drew (S := (fun w' => w'.heap[w1.heap.size]? = some (.cells #[.int .i64 d, .slice (some ⟨b1, off1, none⟩) m cp] 25) ∧ w'.heap[w2.heap.size]? = some (.cells #[.int .i64 d, .slice (some ⟨b2, off2, none⟩) m cv] 25) ∧ SOwn encNum w' w.heap.size 3 (some ⟨b1, off1, none⟩) cp xs ∧ SOwn encNum w' w.heap.size 3 (some ⟨b2, off2, none⟩) cv l ∧ w'.cell? ⟨b1, off1, none⟩ = some (.int .i64 v) ∧ w'.cell? ⟨b2, off2 + j, none⟩ = some (.int .i64 v) ∧ Below w.heap.size w w')) (by kernel_rfl) ⟨hP9, hQ9, hO9.drew, hV9.drew, cA, cV, hB9.drew⟩ (fun hHeld => ?_)
      obtain ⟨hP_0, hQ_0, hO_0, hV_0, hC_0, hD_0, hB_0⟩ := id hHeld
      refine wpAnyH_take (i := 0) (oi := _) (v := ?_) rfl (by kernel_rfl) (by kernel_rfl) (by kernel_rfl) (fun _ _ _ h => h) (Or.inl ⟨by rfl, ?_⟩) (by assumption) ?_
      (rotate_left); (focus (intro wv hSw; (obtain ⟨qP, qQ, qO, qV, qC, qD, qB⟩ := hSw); obtain ⟨u0_, u1_, _, _, _⟩ := blk2 qP; obtain ⟨v0_, v1_, _, _, _⟩ := blk2 qQ; go_simp; (try with_reducible rfl)))
      try simp only [Act.put, List.getElem_toArray, List.getElem_cons_succ, List.getElem_cons_zero, List.setIfInBounds_toArray, List.set_cons_zero, List.set_cons_succ]
      refine wpAnyH_ready (rs := [1]) (by kernel_rfl) (by simp) ?_
      refine AllReadyH.cons (o := _) rfl (fun K hK => ?_) AllReadyH.nil
      go_simp
      (go_at_call 13; refine (iCv_is d _ cv l _ HN1.out hV_0.row (by omega) HV1.out).mono ?_; rintro e x0c ⟨rfl, hw_0c⟩)
      refine hK.out _ _ ⟨blk_next hP_0 hw_0c, blk_next hQ_0 hw_0c, hO_0.next hw_0c, hV_0.next hw_0c, celS_next hC_0 hw_0c, celS_next hD_0 hw_0c, bel_next hB_0 hw_0c⟩ (fun hHeld => ?_)
      clear hK K
      try simp only [Act.put, List.getElem_toArray, List.getElem_cons_succ, List.getElem_cons_zero, List.setIfInBounds_toArray, List.set_cons_zero, List.set_cons_succ]
      obtain ⟨hP_0c, hQ_0c, hO_0c, hV_0c, hC_0c, hD_0c, hB_0c⟩ := id hHeld
      refine wpAnyH_take (i := 2) (oi := _) (v := ?_) rfl (by kernel_rfl) (by kernel_rfl) (by kernel_rfl) (fun _ _ _ h => h) (Or.inl ⟨by rfl, ?_⟩) (by assumption) ?_
      (rotate_left); (focus (intro wv hSw; (obtain ⟨qP, qQ, qO, qV, qC, qD, qB⟩ := hSw); obtain ⟨u0_, u1_, _, _, _⟩ := blk2 qP; obtain ⟨v0_, v1_, _, _, _⟩ := blk2 qQ; go_simp; (try with_reducible rfl)))
      try simp only [Act.put, List.getElem_toArray, List.getElem_cons_succ, List.getElem_cons_zero, List.setIfInBounds_toArray, List.set_cons_zero, List.set_cons_succ]
      refine wpAnyH_take (i := 3) (oi := _) (v := ?_) rfl (by kernel_rfl) (by kernel_rfl) (by kernel_rfl) (fun _ _ _ h => h) (Or.inl ⟨by rfl, ?_⟩) (by assumption) ?_
      (rotate_left); (focus (intro wv hSw; (obtain ⟨qP, qQ, qO, qV, qC, qD, qB⟩ := hSw); obtain ⟨u0_, u1_, _, _, _⟩ := blk2 qP; obtain ⟨v0_, v1_, _, _, _⟩ := blk2 qQ; go_simp; (try with_reducible rfl)))
      try simp only [Act.put, List.getElem_toArray, List.getElem_cons_succ, List.getElem_cons_zero, List.setIfInBounds_toArray, List.set_cons_zero, List.set_cons_succ]
      refine wpAnyH_take (i := 4) (oi := _) (v := ?_) rfl (by kernel_rfl) (by kernel_rfl) (by kernel_rfl) (fun _ _ _ h => h) (Or.inl ⟨by rfl, ?_⟩) (by assumption) ?_
      (rotate_left); (focus (intro wv hSw; (obtain ⟨qP, qQ, qO, qV, qC, qD, qB⟩ := hSw); obtain ⟨u0_, u1_, _, _, _⟩ := blk2 qP; obtain ⟨v0_, v1_, _, _, _⟩ := blk2 qQ; go_simp; (try with_reducible rfl)))
      try simp only [Act.put, List.getElem_toArray, List.getElem_cons_succ, List.getElem_cons_zero, List.setIfInBounds_toArray, List.set_cons_zero, List.set_cons_succ]
      refine wpAnyH_take (i := 5) (oi := _) (v := ?_) rfl (by kernel_rfl) (by kernel_rfl) (by kernel_rfl) (fun _ _ _ h => h) (Or.inl ⟨by rfl, ?_⟩) (by assumption) ?_
      (rotate_left); (focus (intro wv hSw; (obtain ⟨qP, qQ, qO, qV, qC, qD, qB⟩ := hSw); obtain ⟨u0_, u1_, _, _, _⟩ := blk2 qP; obtain ⟨v0_, v1_, _, _, _⟩ := blk2 qQ; go_simp; (try with_reducible rfl)))
      try simp only [Act.put, List.getElem_toArray, List.getElem_cons_succ, List.getElem_cons_zero, List.setIfInBounds_toArray, List.set_cons_zero, List.set_cons_succ]
      refine wpAnyH_take (i := 6) (oi := _) (v := ?_) rfl (by kernel_rfl) (by kernel_rfl) (by kernel_rfl) (fun _ _ _ h => h) (Or.inl ⟨by rfl, ?_⟩) (by assumption) ?_
      (rotate_left); (focus (intro wv hSw; (obtain ⟨qP, qQ, qO, qV, qC, qD, qB⟩ := hSw); obtain ⟨u0_, u1_, _, _, _⟩ := blk2 qP; obtain ⟨v0_, v1_, _, _, _⟩ := blk2 qQ; go_simp; (try with_reducible rfl)))
      try simp only [Act.put, List.getElem_toArray, List.getElem_cons_succ, List.getElem_cons_zero, List.setIfInBounds_toArray, List.set_cons_zero, List.set_cons_succ]
      refine wpAnyH_take (i := 7) (oi := _) (v := ?_) rfl (by kernel_rfl) (by kernel_rfl) (by kernel_rfl) (fun _ _ _ h => h) (Or.inl ⟨by rfl, ?_⟩) (by assumption) ?_
      (rotate_left); (focus (intro wv hSw; (obtain ⟨qP, qQ, qO, qV, qC, qD, qB⟩ := hSw); obtain ⟨u0_, u1_, _, _, _⟩ := blk2 qP; obtain ⟨v0_, v1_, _, _, _⟩ := blk2 qQ; go_simp; (try with_reducible rfl)))
      try simp only [Act.put, List.getElem_toArray, List.getElem_cons_succ, List.getElem_cons_zero, List.setIfInBounds_toArray, List.set_cons_zero, List.set_cons_succ]
      refine wpAnyH_take (i := 8) (oi := _) (v := ?_) rfl (by kernel_rfl) (by kernel_rfl) (by kernel_rfl) (fun _ _ _ h => h) (Or.inl ⟨by rfl, ?_⟩) (by assumption) ?_
      (rotate_left); (focus (intro wv hSw; (obtain ⟨qP, qQ, qO, qV, qC, qD, qB⟩ := hSw); obtain ⟨u0_, u1_, _, _, _⟩ := blk2 qP; obtain ⟨v0_, v1_, _, _, _⟩ := blk2 qQ; go_simp; (try with_reducible rfl)))
      try simp only [Act.put, List.getElem_toArray, List.getElem_cons_succ, List.getElem_cons_zero, List.setIfInBounds_toArray, List.set_cons_zero, List.set_cons_succ]
      refine wpAnyH_take (i := 9) (oi := _) (v := ?_) rfl (by kernel_rfl) (by kernel_rfl) (by kernel_rfl) (fun _ _ _ h => h) (Or.inl ⟨by rfl, ?_⟩) (by assumption) ?_
      (rotate_left); (focus (intro wv hSw; (obtain ⟨qP, qQ, qO, qV, qC, qD, qB⟩ := hSw); obtain ⟨u0_, u1_, _, _, _⟩ := blk2 qP; obtain ⟨v0_, v1_, _, _, _⟩ := blk2 qQ; go_simp; (try with_reducible rfl)))
      try simp only [Act.put, List.getElem_toArray, List.getElem_cons_succ, List.getElem_cons_zero, List.setIfInBounds_toArray, List.set_cons_zero, List.set_cons_succ]
      refine wpAnyH_take (i := 10) (oi := _) (v := ?_) rfl (by kernel_rfl) (by kernel_rfl) (by kernel_rfl) (fun _ _ _ h => h) (Or.inl ⟨by rfl, ?_⟩) (by assumption) ?_
      (rotate_left); (focus (intro wv hSw; (obtain ⟨qP, qQ, qO, qV, qC, qD, qB⟩ := hSw); obtain ⟨u0_, u1_, _, _, _⟩ := blk2 qP; obtain ⟨v0_, v1_, _, _, _⟩ := blk2 qQ; go_simp; (try with_reducible rfl)))
      try simp only [Act.put, List.getElem_toArray, List.getElem_cons_succ, List.getElem_cons_zero, List.setIfInBounds_toArray, List.set_cons_zero, List.set_cons_succ]
      refine wpAnyH_take (i := 11) (oi := _) (v := ?_) rfl (by kernel_rfl) (by kernel_rfl) (by kernel_rfl) (fun _ _ _ h => h) (Or.inl ⟨by rfl, ?_⟩) (by assumption) ?_
      (rotate_left); (focus (intro wv hSw; (obtain ⟨qP, qQ, qO, qV, qC, qD, qB⟩ := hSw); obtain ⟨u0_, u1_, _, _, _⟩ := blk2 qP; obtain ⟨v0_, v1_, _, _, _⟩ := blk2 qQ; go_simp; (try with_reducible rfl)))
      try simp only [Act.put, List.getElem_toArray, List.getElem_cons_succ, List.getElem_cons_zero, List.setIfInBounds_toArray, List.set_cons_zero, List.set_cons_succ]
      refine wpAnyH_take (i := 12) (oi := _) (v := ?_) rfl (by kernel_rfl) (by kernel_rfl) (by kernel_rfl) (fun _ _ _ h => h) (Or.inl ⟨by rfl, ?_⟩) (by assumption) ?_
      (rotate_left); (focus (intro wv hSw; (obtain ⟨qP, qQ, qO, qV, qC, qD, qB⟩ := hSw); obtain ⟨u0_, u1_, _, _, _⟩ := blk2 qP; obtain ⟨v0_, v1_, _, _, _⟩ := blk2 qQ; go_simp; (try with_reducible rfl)))
      try simp only [Act.put, List.getElem_toArray, List.getElem_cons_succ, List.getElem_cons_zero, List.setIfInBounds_toArray, List.set_cons_zero, List.set_cons_succ]
      refine wpAnyH_take (i := 13) (oi := _) (v := ?_) rfl (by kernel_rfl) (by kernel_rfl) (by kernel_rfl) (fun _ _ _ h => h) (Or.inl ⟨by rfl, ?_⟩) (by assumption) ?_
      (rotate_left); (focus (intro wv hSw; (obtain ⟨qP, qQ, qO, qV, qC, qD, qB⟩ := hSw); obtain ⟨u0_, u1_, _, _, _⟩ := blk2 qP; obtain ⟨v0_, v1_, _, _, _⟩ := blk2 qQ; go_simp; (try with_reducible rfl)))
      try simp only [Act.put, List.getElem_toArray, List.getElem_cons_succ, List.getElem_cons_zero, List.setIfInBounds_toArray, List.set_cons_zero, List.set_cons_succ]
      refine wpAnyH_take (i := 14) (oi := _) (v := ?_) rfl (by kernel_rfl) (by kernel_rfl) (by kernel_rfl) (fun _ _ _ h => h) (Or.inl ⟨by rfl, ?_⟩) (by assumption) ?_
      (rotate_left); (focus (intro wv hSw; (obtain ⟨qP, qQ, qO, qV, qC, qD, qB⟩ := hSw); obtain ⟨u0_, u1_, _, _, _⟩ := blk2 qP; obtain ⟨v0_, v1_, _, _, _⟩ := blk2 qQ; go_simp; (try with_reducible rfl)))
      try simp only [Act.put, List.getElem_toArray, List.getElem_cons_succ, List.getElem_cons_zero, List.setIfInBounds_toArray, List.set_cons_zero, List.set_cons_succ]
      refine wpAnyH_take (i := 15) (oi := _) (v := ?_) rfl (by kernel_rfl) (by kernel_rfl) (by kernel_rfl) (fun _ _ _ h => h) (Or.inl ⟨by rfl, ?_⟩) (by assumption) ?_
      (rotate_left); (focus (intro wv hSw; (obtain ⟨qP, qQ, qO, qV, qC, qD, qB⟩ := hSw); obtain ⟨u0_, u1_, _, _, _⟩ := blk2 qP; obtain ⟨v0_, v1_, _, _, _⟩ := blk2 qQ; go_simp; (try with_reducible rfl)))
      try simp only [Act.put, List.getElem_toArray, List.getElem_cons_succ, List.getElem_cons_zero, List.setIfInBounds_toArray, List.set_cons_zero, List.set_cons_succ]
      refine wpAnyH_take (i := 16) (oi := _) (v := ?_) rfl (by kernel_rfl) (by kernel_rfl) (by kernel_rfl) (fun _ _ _ h => h) (Or.inl ⟨by rfl, ?_⟩) (by assumption) ?_
      (rotate_left); (focus (intro wv hSw; (obtain ⟨qP, qQ, qO, qV, qC, qD, qB⟩ := hSw); obtain ⟨u0_, u1_, _, _, _⟩ := blk2 qP; obtain ⟨v0_, v1_, _, _, _⟩ := blk2 qQ; go_simp; (try with_reducible rfl)))
      try simp only [Act.put, List.getElem_toArray, List.getElem_cons_succ, List.getElem_cons_zero, List.setIfInBounds_toArray, List.set_cons_zero, List.set_cons_succ]
      refine wpAnyH_take (i := 17) (oi := _) (v := ?_) rfl (by kernel_rfl) (by kernel_rfl) (by kernel_rfl) (fun _ _ _ h => h) (Or.inl ⟨by rfl, ?_⟩) (by assumption) ?_
      (rotate_left); (focus (intro wv hSw; (obtain ⟨qP, qQ, qO, qV, qC, qD, qB⟩ := hSw); obtain ⟨u0_, u1_, _, _, _⟩ := blk2 qP; obtain ⟨v0_, v1_, _, _, _⟩ := blk2 qQ; go_simp; (try with_reducible rfl)))
      try simp only [Act.put, List.getElem_toArray, List.getElem_cons_succ, List.getElem_cons_zero, List.setIfInBounds_toArray, List.set_cons_zero, List.set_cons_succ]
      refine wpAnyH_take (i := 21) (oi := _) (v := ?_) rfl (by kernel_rfl) (by kernel_rfl) (by kernel_rfl) (fun _ _ _ h => h) (Or.inl ⟨by rfl, ?_⟩) (by assumption) ?_
      (rotate_left); (focus (intro wv hSw; (obtain ⟨qP, qQ, qO, qV, qC, qD, qB⟩ := hSw); obtain ⟨u0_, u1_, _, _, _⟩ := blk2 qP; obtain ⟨v0_, v1_, _, _, _⟩ := blk2 qQ; go_simp; (try with_reducible rfl)))
      try simp only [Act.put, List.getElem_toArray, List.getElem_cons_succ, List.getElem_cons_zero, List.setIfInBounds_toArray, List.set_cons_zero, List.set_cons_succ]
      refine wpAnyH_ready (rs := [18]) (by kernel_rfl) (by simp) ?_
      refine AllReadyH.cons (o := _) rfl (fun K hK => ?_) AllReadyH.nil
      go_simp
      (go_at_call 31; refine (iCt_len d _ cv l _ HN1.out hV_0c.row (by omega) HT2D.out HT2L.out HN2.out).mono ?_; rintro e x0cc ⟨U2, cu2, rfl, hU2, hw_0cc⟩)
      refine hK.out _ _ ⟨blk_next hP_0c hw_0cc, blk_next hQ_0c hw_0cc, hO_0c.next hw_0cc, hV_0c.next hw_0cc, celS_next hC_0c hw_0cc, celS_next hD_0c hw_0cc, bel_next hB_0c hw_0cc⟩ (fun hHeld => ?_)
      clear hK K
      try simp only [Act.put, List.getElem_toArray, List.getElem_cons_succ, List.getElem_cons_zero, List.setIfInBounds_toArray, List.set_cons_zero, List.set_cons_succ]
      obtain ⟨hP_0cc, hQ_0cc, hO_0cc, hV_0cc, hC_0cc, hD_0cc, hB_0cc⟩ := id hHeld
      refine wpAnyH_ready (rs := [19]) (by kernel_rfl) (by simp) ?_
      refine AllReadyH.cons (o := _) rfl (fun K hK => ?_) AllReadyH.nil
      go_simp
      (go_at_call 31; refine (iCt_len d U2 cu2 l2 _ HN2.out hU2.row (by omega) HT3D.out HT3L.out HN3.out).mono ?_; rintro e x0ccc ⟨U3, cu3, rfl, hU3, hw_0ccc⟩)
      refine hK.out _ _ ⟨blk_next hP_0cc hw_0ccc, blk_next hQ_0cc hw_0ccc, hO_0cc.next hw_0ccc, hV_0cc.next hw_0ccc, celS_next hC_0cc hw_0ccc, celS_next hD_0cc hw_0ccc, bel_next hB_0cc hw_0ccc⟩ (fun hHeld => ?_)
      clear hK K
      try simp only [Act.put, List.getElem_toArray, List.getElem_cons_succ, List.getElem_cons_zero, List.setIfInBounds_toArray, List.set_cons_zero, List.set_cons_succ]
      obtain ⟨hP_0ccc, hQ_0ccc, hO_0ccc, hV_0ccc, hC_0ccc, hD_0ccc, hB_0ccc⟩ := id hHeld
      refine wpAnyH_ready (rs := [20]) (by kernel_rfl) (by simp) ?_
      refine AllReadyH.cons (o := _) rfl (fun K hK => ?_) AllReadyH.nil
      go_simp
      (go_at_call 31; refine (iCt_len d U3 cu3 l3 _ HN3.out hU3.row (by omega) HT4D.out HT4L.out HM.out).mono ?_; rintro e x0cccc ⟨U4, cu4, rfl, hU4, hw_0cccc⟩)
      refine hK.out _ _ ⟨blk_next hP_0ccc hw_0cccc, blk_next hQ_0ccc hw_0cccc, hO_0ccc.next hw_0cccc, hV_0ccc.next hw_0cccc, celS_next hC_0ccc hw_0cccc, celS_next hD_0ccc hw_0cccc, bel_next hB_0ccc hw_0cccc⟩ (fun hHeld => ?_)
      clear hK K
      try simp only [Act.put, List.getElem_toArray, List.getElem_cons_succ, List.getElem_cons_zero, List.setIfInBounds_toArray, List.set_cons_zero, List.set_cons_succ]
      obtain ⟨hP_0cccc, hQ_0cccc, hO_0cccc, hV_0cccc, hC_0cccc, hD_0cccc, hB_0cccc⟩ := id hHeld
      refine wpAnyH_ready (rs := [22]) (by kernel_rfl) (by simp) ?_
      refine AllReadyH.cons (o := _) rfl (fun K hK => ?_) AllReadyH.nil
      go_simp
      (go_at_call 35; refine (sameCity_is d U4 _ cu4 cp xs HM.out hU4.row hO_0cccc.row (by omega)).mono ?_; rintro e x0ccccc ⟨rfl, hw_0ccccc⟩)
      refine hK.out _ _ ⟨blk_next hP_0cccc hw_0ccccc, blk_next hQ_0cccc hw_0ccccc, hO_0cccc.next hw_0ccccc, hV_0cccc.next hw_0ccccc, celS_next hC_0cccc hw_0ccccc, celS_next hD_0cccc hw_0ccccc, bel_next hB_0cccc hw_0ccccc⟩ (fun hHeld => ?_)
      clear hK K
      try simp only [Act.put, List.getElem_toArray, List.getElem_cons_succ, List.getElem_cons_zero, List.setIfInBounds_toArray, List.set_cons_zero, List.set_cons_succ]
      obtain ⟨hP_0ccccc, hQ_0ccccc, hO_0ccccc, hV_0ccccc, hC_0ccccc, hD_0ccccc, hB_0ccccc⟩ := id hHeld
      refine wpAnyH_take (i := 23) (oi := _) (v := ?_) rfl (by kernel_rfl) (by kernel_rfl) (by kernel_rfl) (fun _ _ _ h => h) (Or.inl ⟨by rfl, ?_⟩) (by assumption) ?_
      (rotate_left); (focus (intro wv hSw; (obtain ⟨qP, qQ, qO, qV, qC, qD, qB⟩ := hSw); obtain ⟨u0_, u1_, _, _, _⟩ := blk2 qP; obtain ⟨v0_, v1_, _, _, _⟩ := blk2 qQ; go_simp; (try with_reducible rfl)))
      try simp only [Act.put, List.getElem_toArray, List.getElem_cons_succ, List.getElem_cons_zero, List.setIfInBounds_toArray, List.set_cons_zero, List.set_cons_succ]
      refine wpAnyH_take (i := 24) (oi := _) (v := ?_) rfl (by kernel_rfl) (by kernel_rfl) (by kernel_rfl) (fun _ _ _ h => h) (Or.inl ⟨by rfl, ?_⟩) (by assumption) ?_
      (rotate_left); (focus (intro wv hSw; (obtain ⟨qP, qQ, qO, qV, qC, qD, qB⟩ := hSw); obtain ⟨u0_, u1_, _, _, _⟩ := blk2 qP; obtain ⟨v0_, v1_, _, _, _⟩ := blk2 qQ; go_simp; (try with_reducible rfl)))
      try simp only [Act.put, List.getElem_toArray, List.getElem_cons_succ, List.getElem_cons_zero, List.setIfInBounds_toArray, List.set_cons_zero, List.set_cons_succ]
      refine wpAnyH_done (by kernel_rfl) ?_ _
      clear hdj
      go_wp2_with fail
      go_ret
      exact ⟨rfl, hB_0ccccc⟩

set_option maxRecDepth 100000 in
theorem lifted (os : Os) (started : os.Started) (H : Type) (enc : TypeId × Value → H) :
    ReturnsInHanded {} Try.checked os 9 .any (Rows.fnCityTurnSpec.pre6 enc Try.prog Try.f9 Rows.fnCityTurnRow.domain false) (Rows.fnCityTurnSpec.post enc Try.prog Try.f9 false true false false) := by
  refine returnsInHanded_of_change (C := Try.checked) own started (by kernel_rfl) Try.func9
    (ChangeSpec.witness6 (enc := enc) (C := Try.checked) false ⟨#[], #[.slice none 0 0], []⟩ 8 (by kernel_rfl) (by kernel_rfl) (by kernel_rfl) (by kernel_rfl)) ?_
  intro W base args ds gs before hval0 hW hcnd _
  have hval : ∀ (j : Nat) t v, Try.f9.params[j]? = some t → args[j]? = some v → Value.okWide Try.prog W .any base t v := hval0
  have hW' := hW
  obtain ⟨p, q, hA0, hV, rfl, hfz, hnd⟩ := hW
  have hA : DataW.TrodAll enc Try.prog W 0 (fun _ => true) true Try.f9.params.toList args.toList ds p := hA0
  rw [Try.params9] at hA hval
  obtain ⟨v0, vs0, d0, ds0, p0, q0, hargs, rfl, rfl, h0, r0⟩ := trodAll_cons hA
  obtain ⟨rfl, rfl, rfl⟩ := trodAll_nil r0
  obtain rfl : args = #[v0] := by cases args; simp_all
  obtain ⟨rfl, rfl⟩ := trodVars_none hV
  have k0 := h0
  have lt0 : ∀ x ∈ p0, x.block < W.heap.size := by obtain ⟨m, hm⟩ := k0; exact DataW.trod_lt m _ _ _ hm
  obtain ⟨a0, len0, cap0, rfl⟩ := okWide_slice Try.underlying22 (hval 0 22 v0 rfl rfl)
  have w0 : CodeOk W a0 len0 cap0 := by
    obtain ⟨fuel, hf⟩ := h0
    rcases open_ints Try.underlying22 Try.underlying5 (by kernel_rfl) hf with ⟨hcs, _⟩ | ⟨x, l, c, zs, hcs, _, hl, hm, hz, _, hcell, hwz⟩
    · simp [Value.cells] at hcs
      obtain ⟨rfl, rfl, rfl⟩ := hcs
      exact code_nil W
    · simp [Value.cells] at hcs
      obtain ⟨rfl, rfl, rfl⟩ := hcs
      exact code_ok hl hm (by simp at hz; omega) hcell hwz
  clear hA0 hval0
  refine (walk W a0 len0 cap0 w0).mono fun e W' ⟨he, bel⟩ => ?_
  subst he
  exact ⟨_, rfl, _, _, _, [], _, [], hW', trodAll_mk1 (shut_bool Try.underlying4 _), (trodAll_cons_mk (Below.trod laidOut (by kernel_rfl) (of_decide_eq_true (by kernel_rfl)) k0 bel lt0) trodAll_mk0), rfl, bel.frame _, fun h => by cases h⟩

theorem over : Rows.fnCityTurnRow.holds Try.pinned (OpenSpec.ofChange Rows.fnCityTurnSpec) :=
  OpenClaim.holds_of_wide 9 Try.f9 rfl rfl rfl rfl rfl rfl rfl ⟨rfl, rfl, rfl, rfl, rfl⟩ rfl rfl rfl rfl rfl (by kernel_rfl) Try.func9 (by kernel_rfl)
    (of_decide_eq_true (by kernel_rfl)) (by unfold Func.isWrapper; first | (rw [if_pos (by decide +kernel)]; kernel_rfl) | (rw [if_neg (by decide +kernel)]; exact ⟨rfl, rfl⟩))
    (fun os started H enc _ => lifted os started H enc)

/-- The statement. -/
theorem proved : Rows.FnCityTurnSaid :=
  over
#print axioms proved
end Go.Proofs.Ytidppabconifkaa.fnCityTurn
