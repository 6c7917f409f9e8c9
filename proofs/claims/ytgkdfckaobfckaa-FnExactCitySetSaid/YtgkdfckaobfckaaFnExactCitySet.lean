/- FnExactCitySet: whatever the input, the law returns true, and its arguments read as they did. No conditions beyond those of the statement's row. -/
import Derived.Test.YtgkdfckaobfckaaYc
import Derived.Test.YtgkdfckaobfckaaYk
namespace Go.Proofs.Ytgkdfckaobfckaa.fnExactCitySet
open Go.Proofs.Ytgkdfckaobfckaa
open Go.ChangeShapes Go.WideShapes Go.ChangeAt Go.RowKit Go.Joins
set_option linter.unusedVariables false
set_option linter.unusedSimpArgs false
set_option linter.unnecessarySimpa false

theorem own : ownKnob Try.prog.godebug = none := by kernel_rfl
theorem laidOut : laidOutB Try.prog = true := by kernel_rfl
theorem cells0 : Try.prog.cellsOf 24 = 2 := by kernel_rfl
set_option maxRecDepth 100000 in
set_option maxHeartbeats 4000000 in
theorem walk (w : World) (d0 : Int) (A0 : Option Addr) (cap0 : Nat) (xs0 : List Int) (w0 : SRow encNum w A0 xs0) (l0 : xs0.length ≤ maxLen) (q0 : Wf d0) (a1 : Int) (w1 : (Lit.int .i64 a1).wf = true) (a2 : Int) (w2 : (Lit.int .i64 a2).wf = true) :
    Calls Try.prog 8 #[.agg #[.int .i64 d0, .slice A0 xs0.length cap0], .int .i64 a1, .int .i64 a2] w fun e w' => e = .returned (.bool true) ∧ Below w.heap.size w w' := by
  obtain ⟨r9, hr9⟩ : ∃ r, csD d0 xs0 a1 a2 = r := ⟨_, rfl⟩
  obtain ⟨l, hl9⟩ : ∃ l, csL d0 xs0 a1 a2 = l := ⟨_, rfl⟩
  have hle9 : l.length ≤ xs0.length := by rw [← hl9]; exact csL_len d0 xs0 a1 a2
  have HV := Lib.hid (And.intro hr9 hl9)
  clear hr9 hl9
  obtain ⟨b9, hb9⟩ : ∃ r, csB d0 xs0 a1 a2 = r := ⟨_, rfl⟩
  have HVB := Lib.hid hb9
  clear hb9
  have hW0 := w0
  clear q0
  have l0' := l0
  unfold maxLen at l0'
  go_enter Try.func8, Try.ntmps8
  go_wp2_with fail
  refine (szCity_any d0 A0 _ cap0 1048576 _ (by omega) (by omega) l0).mono ?_; rintro e' w1 ⟨r, rfl, hL, hw1⟩
  obtain ⟨hP1, hB1⟩ := ownb hw1
  rcases hL with rfl | ⟨r0, r1, hq⟩
  · go_wp2
    go_ret
    exact ⟨rfl, hB1⟩
  · have hr : ¬ r < 0 := by omega
    have hn : xs0.length ≤ 1048576 := by omega
    clear hq
    have hB0 := hB1
    have hP0 := hP1
    have hA_0 := hW0.next hB1
    have hlen : l.length ≤ 1048576 := by omega
    obtain ⟨m, hm⟩ : ∃ m, l.length = m := ⟨_, rfl⟩
    rw [hm] at hlen hle9
    have HM := Lib.hid hm
    clear hm
    obtain ⟨cP0_0, cP0_1, fP0_0, fP0_1, zP0⟩ := blk2 hP0
    go_wp2_with fail
    refine (toCity_any d0 A0 cap0 xs0 _ hA_0 (by omega)).mono ?_; rintro e' w1 ⟨gC, rfl, hgC, hC1, hw1⟩
    have hP1 := blk_next hP0 hw1
    have hA_1 := hA_0.next hw1
    have hB1 := bel_next hB0 hw1
    have hz1 := hw1.size
    go_wp2_with fail
    refine (sCset_is d0 _ _ xs0 a1 a2 _ rfl hC1.row (by omega) HVB.out HV.out.1 HV.out.2).mono ?_; rintro e' w2 ⟨As, cs, rfl, hS2, hw2⟩
    have hP2 := blk_next hP1 hw2
    have hA_2 := hA_1.next hw2
    have hC2 := hC1.next hw2
    have hB2 := bel_next hB1 hw2
    have hS2 := hS2.mono hB1.size
    rw [HM.out]
    have hz2 := hw2.size
    have hSlt : ∀ g, As = some ⟨g, 0, none⟩ → g < w2.heap.size := fun g hg => by rcases hS2.form with ⟨e, _⟩ | ⟨g1, e, _, h⟩; rw [e] at hg; cases hg; rw [e] at hg; cases hg; exact h
    obtain ⟨zY, hzY⟩ : ∃ z, w2.heap.size = z := ⟨_, rfl⟩
    have hY3 := blk_new w2 (.cells #[.int .i64 r9, .slice As m cs] 27 (0, 0))
    have hP3 := blk_old hP2 (.cells #[.int .i64 r9, .slice As m cs] 27 (0, 0))
    have hB3 := hB2.alloc hB2.size (.cells #[.int .i64 r9, .slice As m cs] 27 (0, 0))
    have hA_3 := hA_2.next (bel1 _ (.cells #[.int .i64 r9, .slice As m cs] 27 (0, 0)))
    have hS3 := hS2.next (bel1 _ (.cells #[.int .i64 r9, .slice As m cs] 27 (0, 0)))
    rw [hzY] at hY3
    have HZY := Lib.hid hzY
    have hYs : w2.heap.size = zY := HZY.out
    obtain ⟨cP3_0, cP3_1, fP3_0, fP3_1, zP3⟩ := blk2 hP3
    go_wp2_with fail
    refine (toCity_any d0 A0 cap0 xs0 _ hA_3 (by omega)).mono ?_; rintro e' w4 ⟨gD, rfl, hgD, hD4, hw4⟩
    have hP4 := blk_next hP3 hw4
    have hY4 := blk_next hY3 hw4
    have hA_4 := hA_3.next hw4
    have hS4 := hS3.next hw4
    have hB4 := bel_next hB3 hw4
    have hz4 := hw4.size
    have hgY : zY < gD := by have := blk_lt hY3; omega
    obtain ⟨zX, hzX⟩ : ∃ z, w4.heap.size = z := ⟨_, rfl⟩
    have hXl : w.heap.size < zX := by have := blk_lt hP4; omega
    have hDl := hD4.lt
    have hX5 := blk_new w4 (.cells #[.int .i64 d0, .slice (some ⟨gD, 0, none⟩) xs0.length xs0.length] 27 (0, 0))
    have hP5 := blk_old hP4 (.cells #[.int .i64 d0, .slice (some ⟨gD, 0, none⟩) xs0.length xs0.length] 27 (0, 0))
    have hY5 := blk_old hY4 (.cells #[.int .i64 d0, .slice (some ⟨gD, 0, none⟩) xs0.length xs0.length] 27 (0, 0))
    have hB5 := hB4.alloc hB4.size (.cells #[.int .i64 d0, .slice (some ⟨gD, 0, none⟩) xs0.length xs0.length] 27 (0, 0))
    have hA_5 := hA_4.next (bel1 _ (.cells #[.int .i64 d0, .slice (some ⟨gD, 0, none⟩) xs0.length xs0.length] 27 (0, 0)))
    have hS5 := hS4.next (bel1 _ (.cells #[.int .i64 d0, .slice (some ⟨gD, 0, none⟩) xs0.length xs0.length] 27 (0, 0)))
    have hD5 := hD4.next (bel1 _ (.cells #[.int .i64 d0, .slice (some ⟨gD, 0, none⟩) xs0.length xs0.length] 27 (0, 0)))
    rw [hzX] at hX5
    have HZX := Lib.hid hzX
    obtain ⟨cX5_0, cX5_1, fX5_0, fX5_1, zX5⟩ := blk2 hX5
    obtain ⟨nb, hnb⟩ : ∃ nb, (w4.alloc (.cells #[.int .i64 d0, .slice (some ⟨gD, 0, none⟩) xs0.length xs0.length] 27 (0, 0))).heap.size = nb := ⟨_, rfl⟩
    have hnz : zX < nb := by rw [← hnb]; exact blk_lt hX5
    have hgDw : gD < zX := by have := HZX.out; omega
    have HNB := Lib.hid hnb
    clear hnb
    go_wp2_with fail
    refine (iCset_is d0 _ _ xs0 a1 a2 _ rfl hD5.row (by omega) HVB.out HV.out.1 HV.out.2).mono ?_; rintro e' w6 ⟨Ai, ci, rfl, hI6, hw6⟩
    have hP6 := blk_next hP5 hw6
    have hY6 := blk_next hY5 hw6
    have hX6 := blk_next hX5 hw6
    have hA_6 := hA_5.next hw6
    have hS6 := hS5.next hw6
    have hD6 := hD5.next hw6
    have hB6 := bel_next hB5 hw6
    rw [HM.out]
    have hz6 := hw6.size
    have hIge : ∀ g, Ai = some ⟨g, 0, none⟩ → nb ≤ g := fun g hg => by rcases hI6.form with ⟨e, _⟩ | ⟨g1, e, h, _⟩; rw [e] at hg; cases hg; rw [e] at hg; cases hg; rw [HNB.out] at h; exact h
    have hI6 := hI6.mono (base' := w.heap.size) (by rw [HNB.out]; omega)
    obtain ⟨zG, hzG⟩ : ∃ z, w6.heap.size = z := ⟨_, rfl⟩
    have hG7 := blk_new w6 (.cells #[.int .i64 r9, .slice Ai m ci] 27 (0, 0))
    have hP7 := blk_old hP6 (.cells #[.int .i64 r9, .slice Ai m ci] 27 (0, 0))
    have hY7 := blk_old hY6 (.cells #[.int .i64 r9, .slice Ai m ci] 27 (0, 0))
    have hX7 := blk_old hX6 (.cells #[.int .i64 r9, .slice Ai m ci] 27 (0, 0))
    have hB7 := hB6.alloc hB6.size (.cells #[.int .i64 r9, .slice Ai m ci] 27 (0, 0))
    have hA_7 := hA_6.next (bel1 _ (.cells #[.int .i64 r9, .slice Ai m ci] 27 (0, 0)))
    have hS7 := hS6.next (bel1 _ (.cells #[.int .i64 r9, .slice Ai m ci] 27 (0, 0)))
    have hD7 := hD6.next (bel1 _ (.cells #[.int .i64 r9, .slice Ai m ci] 27 (0, 0)))
    have hI7 := hI6.next (bel1 _ (.cells #[.int .i64 r9, .slice Ai m ci] 27 (0, 0)))
    rw [hzG] at hG7
    have HZG := Lib.hid hzG
    obtain ⟨cG7_0, cG7_1, fG7_0, fG7_1, zG7⟩ := blk2 hG7
    obtain ⟨cY7_0, cY7_1, fY7_0, fY7_1, zY7⟩ := blk2 hY7
    go_wp2_with fail
    refine (eqCity_same r9 _ _ _ _ l HM.out hI7.row hS7.row (by omega)).mono ?_; rintro e' w8 ⟨rfl, hw8⟩
    have hP8 := blk_next hP7 hw8
    have hY8 := blk_next hY7 hw8
    have hX8 := blk_next hX7 hw8
    have hG8 := blk_next hG7 hw8
    have hA_8 := hA_7.next hw8
    have hS8 := hS7.next hw8
    have hD8 := hD7.next hw8
    have hI8 := hI7.next hw8
    have hB8 := bel_next hB7 hw8
    go_wp2_with fail
    refine wp_region_held_drew (S := (fun w' => w'.heap[w.heap.size]? = some (.cells #[.int .i64 d0, .slice A0 xs0.length cap0] 24 (0, 0)) ∧ w'.heap[zX]? = some (.cells #[.int .i64 d0, .slice (some ⟨gD, 0, none⟩) xs0.length xs0.length] 27 (0, 0)) ∧ w'.heap[zY]? = some (.cells #[.int .i64 r9, .slice As m cs] 27 (0, 0)) ∧ w'.heap[zG]? = some (.cells #[.int .i64 r9, .slice Ai m ci] 27 (0, 0)) ∧ SRow encNum w' A0 xs0 ∧ SBlk encNum w' gD 3 xs0 ∧ SOwn encNum w' w.heap.size 3 As cs l ∧ SOwn encNum w' w.heap.size 3 Ai ci l ∧ Below w.heap.size w w')) (by kernel_rfl) ⟨hP8, hX8, hY8, hG8, hA_8, hD8, hS8.drew, hI8.drew, hB8.drew⟩ (fun hHeld => ?_)
    obtain ⟨hP_0, hX_0, hY_0, hG_0, hA_0, hD_0, hS_0, hI_0, hB_0⟩ := id hHeld
    refine wpAnyH_take (i := 0) (oi := _) (v := ?_) rfl (by kernel_rfl) (by kernel_rfl) (by kernel_rfl) (fun _ _ _ h => h) (Or.inl ⟨by rfl, ?_⟩) (by assumption) ?_
    (rotate_left); (focus (intro wv hSw; (obtain ⟨qP, qX, qY, qG, qA, qD, qS, qI, qB⟩ := hSw); obtain ⟨u0, u1, _, _, _⟩ := blk2 qX; go_simp; (try with_reducible rfl)))
    try simp only [Act.put, List.getElem_toArray, List.getElem_cons_succ, List.getElem_cons_zero, List.setIfInBounds_toArray, List.set_cons_zero, List.set_cons_succ]
    refine wpAnyH_take (i := 1) (oi := _) (v := ?_) rfl (by kernel_rfl) (by kernel_rfl) (by kernel_rfl) (fun _ _ _ h => h) (Or.inl ⟨by rfl, ?_⟩) (by assumption) ?_
    (rotate_left); (focus (intro wv hSw; (obtain ⟨qP, qX, qY, qG, qA, qD, qS, qI, qB⟩ := hSw); obtain ⟨u0, u1, _, _, _⟩ := blk2 qP; go_simp; (try with_reducible rfl)))
    try simp only [Act.put, List.getElem_toArray, List.getElem_cons_succ, List.getElem_cons_zero, List.setIfInBounds_toArray, List.set_cons_zero, List.set_cons_succ]
    refine wpAnyH_ready (rs := [2]) (by kernel_rfl) (by simp) ?_
    refine AllReadyH.cons (o := _) rfl (fun K hK => ?_) AllReadyH.nil
    go_simp
    (go_at_call 14; refine (toCity_any d0 A0 cap0 xs0 _ hA_0 (by omega)).mono ?_; rintro e x0c ⟨gE, rfl, hgE, hE_0c, hw_0c⟩)
    refine hK.out _ _ ⟨blk_next hP_0 hw_0c, blk_next hX_0 hw_0c, blk_next hY_0 hw_0c, blk_next hG_0 hw_0c, hA_0.next hw_0c, hD_0.next hw_0c, hS_0.next hw_0c, hI_0.next hw_0c, bel_next hB_0 hw_0c⟩ (fun hHeld => ?_)
    clear hK K
    try simp only [Act.put, List.getElem_toArray, List.getElem_cons_succ, List.getElem_cons_zero, List.setIfInBounds_toArray, List.set_cons_zero, List.set_cons_succ]
    obtain ⟨hP_0c, hX_0c, hY_0c, hG_0c, hA_0c, hD_0c, hS_0c, hI_0c, hB_0c⟩ := id hHeld
    refine wpAnyH_ready (rs := [3]) (by kernel_rfl) (by simp) ?_
    refine AllReadyH.cons (o := _) rfl (fun K hK => ?_) AllReadyH.nil
    go_simp
    (go_at_call 16; refine (eqCity_same d0 _ _ _ _ xs0 rfl hD_0c.row hE_0c.row (by omega)).mono ?_; rintro e x0cc ⟨rfl, hw_0cc⟩)
    refine hK.out _ _ ⟨blk_next hP_0c hw_0cc, blk_next hX_0c hw_0cc, blk_next hY_0c hw_0cc, blk_next hG_0c hw_0cc, hA_0c.next hw_0cc, hD_0c.next hw_0cc, hS_0c.next hw_0cc, hI_0c.next hw_0cc, bel_next hB_0c hw_0cc⟩ (fun hHeld => ?_)
    clear hK K
    try simp only [Act.put, List.getElem_toArray, List.getElem_cons_succ, List.getElem_cons_zero, List.setIfInBounds_toArray, List.set_cons_zero, List.set_cons_succ]
    obtain ⟨hP_0cc, hX_0cc, hY_0cc, hG_0cc, hA_0cc, hD_0cc, hS_0cc, hI_0cc, hB_0cc⟩ := id hHeld
    refine wpAnyH_take (i := 4) (oi := _) (v := ?_) rfl (by kernel_rfl) (by kernel_rfl) (by kernel_rfl) (fun _ _ _ h => h) (Or.inl ⟨by rfl, ?_⟩) (by assumption) ?_
    (rotate_left); (focus (intro wv hSw; (obtain ⟨qP, qX, qY, qG, qA, qD, qS, qI, qB⟩ := hSw);  go_simp; (try with_reducible rfl)))
    try simp only [Act.put, List.getElem_toArray, List.getElem_cons_succ, List.getElem_cons_zero, List.setIfInBounds_toArray, List.set_cons_zero, List.set_cons_succ]
    refine wpAnyH_done (by kernel_rfl) ?_ _
    have hP9 := hP_0cc
    have hX9 := hX_0cc
    have hY9 := hY_0cc
    have hG9 := hG_0cc
    have hA_9 := hA_0cc
    have hD9 := hD_0cc
    have hS9 := hS_0cc
    have hI9 := hI_0cc
    have hB9 := hB_0cc
    clear hP_0cc hX_0cc hY_0cc hG_0cc hA_0cc hD_0cc hS_0cc hI_0cc hB_0cc
    obtain ⟨cX9_0, cX9_1, fX9_0, fX9_1, zX9⟩ := blk2 hX9
    have hDo := SOwn.of_blk (base := w.heap.size) hD9 (by omega) rfl l0
    go_wp2_with fail
    refine (markCity_any d0 w.heap.size _ _ xs0 1 rfl hB9.size hDo (by omega) (by omega) (by omega)).mono ?_; rintro e' wM ⟨rfl, hDM, hGr⟩
    have hB10 : Below w.heap.size w wM := hB9.grown hGr hB9.size (fun j hj => by simp [Value.ownBlock] at hj; omega)
    have hI10 := hI9.grown_far hGr (fun g hg e => by have := hIge g hg; simp [Value.ownBlock] at e; omega)
    have hS10 := hS9.grown_far hGr (fun g hg e => by have := hSlt g hg; simp [Value.ownBlock] at e; omega)
    have hP10 := blk_grownC hP9 hGr (SOwn.ne_typeC hDo hP9 (by decide))
    have hY10 := blk_grownC hY9 hGr (SOwn.ne_typeC hDo hY9 (by decide))
    have hG10 := blk_grownC hG9 hGr (SOwn.ne_typeC hDo hG9 (by decide))
    have hA_10 := hW0.next hB10
    have hk0 : ¬ (1 + (xs0.length : Int)) < 0 := by omega
    clear hGr hDM hDo
    obtain ⟨cG10_0, cG10_1, fG10_0, fG10_1, zG10⟩ := blk2 hG10
    obtain ⟨cY10_0, cY10_1, fY10_0, fY10_1, zY10⟩ := blk2 hY10
    go_wp2_with fail
    refine (eqCity_same r9 _ _ _ _ l HM.out hI10.row hS10.row (by omega)).mono ?_; rintro e' w11 ⟨rfl, hw11⟩
    have hP11 := blk_next hP10 hw11
    have hY11 := blk_next hY10 hw11
    have hG11 := blk_next hG10 hw11
    have hA_11 := hA_10.next hw11
    have hS11 := hS10.next hw11
    have hI11 := hI10.next hw11
    have hB11 := bel_next hB10 hw11
    obtain ⟨cG11_0, cG11_1, fG11_0, fG11_1, zG11⟩ := blk2 hG11
    go_wp2_with fail
    refine (markCity_any r9 w.heap.size _ _ l 1 HM.out hB11.size hI11 (by omega) (by omega) (by omega)).mono ?_; rintro e' wN ⟨rfl, hIN, hGr⟩
    have hB12 : Below w.heap.size w wN := SOwn.below_grown hI11 hB11 hGr
    have hS12 := hS11.grown_far hGr (fun g hg e => by have := hSlt g hg; rcases hI11.form with ⟨e2, _⟩ | ⟨g1, e2, h, _⟩; rw [e2] at e; simp [Value.ownBlock] at e; rw [e2] at e; simp [Value.ownBlock] at e; have := hIge g1 e2; omega)
    have hP12 := blk_grownC hP11 hGr (SOwn.ne_typeC hI11 hP11 (by decide))
    have hY12 := blk_grownC hY11 hGr (SOwn.ne_typeC hI11 hY11 (by decide))
    have hG12 := blk_grownC hG11 hGr (SOwn.ne_typeC hI11 hG11 (by decide))
    clear hGr
    have hI12 := hIN
    have hA_12 := hW0.next hB12
    obtain ⟨cG12_0, cG12_1, fG12_0, fG12_1, zG12⟩ := blk2 hG12
    go_wp2_with fail
    refine (heldCity_any r9 Ai ci 1 (m := m) hI12.row (by omega) (by omega) (by omega)).mono ?_; rintro e' w13 ⟨rfl, hw13⟩
    have hP13 := blk_next hP12 hw13
    have hY13 := blk_next hY12 hw13
    have hG13 := blk_next hG12 hw13
    have hA_13 := hA_12.next hw13
    have hS13 := hS12.next hw13
    have hI13 := hI12.next hw13
    have hB13 := bel_next hB12 hw13
    have hk1 : ¬ (1 + (m : Int)) < 0 := by omega
    obtain ⟨cP13_0, cP13_1, fP13_0, fP13_1, zP13⟩ := blk2 hP13
    go_wp2_with fail
    refine (toCity_any d0 A0 cap0 xs0 _ hA_13 (by omega)).mono ?_; rintro e' w14 ⟨gF, rfl, hgF, hF14, hw14⟩
    have hP14 := blk_next hP13 hw14
    have hY14 := blk_next hY13 hw14
    have hG14 := blk_next hG13 hw14
    have hA_14 := hA_13.next hw14
    have hS14 := hS13.next hw14
    have hI14 := hI13.next hw14
    have hB14 := bel_next hB13 hw14
    go_wp2_with fail
    refine (iCset_is d0 _ _ xs0 a1 a2 _ rfl hF14.row (by omega) HVB.out HV.out.1 HV.out.2).mono ?_; rintro e' w15 ⟨Ah, ch, rfl, hHH15, hw15⟩
    have hP15 := blk_next hP14 hw15
    have hY15 := blk_next hY14 hw15
    have hG15 := blk_next hG14 hw15
    have hA_15 := hA_14.next hw15
    have hS15 := hS14.next hw15
    have hI15 := hI14.next hw15
    have hF15 := hF14.next hw15
    have hB15 := bel_next hB14 hw15
    rw [HM.out]
    obtain ⟨zK, hzK⟩ : ∃ z, w15.heap.size = z := ⟨_, rfl⟩
    have hK16 := blk_new w15 (.cells #[.int .i64 r9, .slice Ah m ch] 27 (0, 0))
    have hP16 := blk_old hP15 (.cells #[.int .i64 r9, .slice Ah m ch] 27 (0, 0))
    have hY16 := blk_old hY15 (.cells #[.int .i64 r9, .slice Ah m ch] 27 (0, 0))
    have hG16 := blk_old hG15 (.cells #[.int .i64 r9, .slice Ah m ch] 27 (0, 0))
    have hB16 := hB15.alloc hB15.size (.cells #[.int .i64 r9, .slice Ah m ch] 27 (0, 0))
    have hA_16 := hA_15.next (bel1 _ (.cells #[.int .i64 r9, .slice Ah m ch] 27 (0, 0)))
    have hS16 := hS15.next (bel1 _ (.cells #[.int .i64 r9, .slice Ah m ch] 27 (0, 0)))
    have hI16 := hI15.next (bel1 _ (.cells #[.int .i64 r9, .slice Ah m ch] 27 (0, 0)))
    have hF16 := hF15.next (bel1 _ (.cells #[.int .i64 r9, .slice Ah m ch] 27 (0, 0)))
    have hHH16 := hHH15.next (bel1 _ (.cells #[.int .i64 r9, .slice Ah m ch] 27 (0, 0)))
    rw [hzK] at hK16
    have HZK := Lib.hid hzK
    obtain ⟨cK16_0, cK16_1, fK16_0, fK16_1, zK16⟩ := blk2 hK16
    obtain ⟨cY16_0, cY16_1, fY16_0, fY16_1, zY16⟩ := blk2 hY16
    go_wp2_with fail
    refine (eqCity_same r9 _ _ _ _ l HM.out hHH16.row hS16.row (by omega)).mono ?_; rintro e' w17 ⟨rfl, hw17⟩
    have hP17 := blk_next hP16 hw17
    have hY17 := blk_next hY16 hw17
    have hG17 := blk_next hG16 hw17
    have hK17 := blk_next hK16 hw17
    have hA_17 := hA_16.next hw17
    have hS17 := hS16.next hw17
    have hI17 := hI16.next hw17
    have hF17 := hF16.next hw17
    have hHH17 := hHH16.next hw17
    have hB17 := bel_next hB16 hw17
    obtain ⟨cG17_0, cG17_1, fG17_0, fG17_1, zG17⟩ := blk2 hG17
    go_wp2_with fail
    refine (heldCity_any r9 Ai ci 1 (m := m) hI17.row (by omega) (by omega) (by omega)).mono ?_; rintro e' w18 ⟨rfl, hw18⟩
    have hP18 := blk_next hP17 hw18
    have hY18 := blk_next hY17 hw18
    have hG18 := blk_next hG17 hw18
    have hK18 := blk_next hK17 hw18
    have hA_18 := hA_17.next hw18
    have hS18 := hS17.next hw18
    have hI18 := hI17.next hw18
    have hF18 := hF17.next hw18
    have hHH18 := hHH17.next hw18
    have hB18 := bel_next hB17 hw18
    go_wp2
    go_ret
    exact ⟨rfl, by first | exact hB18 | exact hB18.drew⟩

set_option maxRecDepth 100000 in
theorem lifted (os : Os) (started : os.Started) (H : Type) (enc : TypeId × Value → H) :
    ReturnsInHanded {} Try.checked os 8 .any (Rows.fnExactCitySetSpec.pre6 enc Try.prog Try.f8 Rows.fnExactCitySetRow.domain false) (Rows.fnExactCitySetSpec.post enc Try.prog Try.f8 false true false false) := by
  refine returnsInHanded_of_change (C := Try.checked) own started (by kernel_rfl) Try.func8
    (ChangeSpec.witness6 (enc := enc) (C := Try.checked) false ⟨#[], #[.agg #[.int .i64 0, .slice none 0 0], .int .i64 0, .int .i64 0], []⟩ 8 (by kernel_rfl) (by kernel_rfl) (by kernel_rfl) (by kernel_rfl)) ?_
  intro W base args ds gs before hval0 hW hcnd _
  have hval : ∀ (j : Nat) t v, Try.f8.params[j]? = some t → args[j]? = some v → Value.okWide Try.prog W .any base t v := hval0
  have hW' := hW
  obtain ⟨p, q, hA0, hV, rfl, hfz, hnd⟩ := hW
  have hA : DataW.TrodAll enc Try.prog W 0 (fun _ => true) true Try.f8.params.toList args.toList ds p := hA0
  rw [Try.params8] at hA hval
  obtain ⟨v0, vs0, d0, ds0, p0, q0, hargs, rfl, rfl, h0, r0⟩ := trodAll_cons hA
  obtain ⟨v1, vs1, d1, ds1, p1, q1, rfl, rfl, rfl, h1, r1⟩ := trodAll_cons r0
  obtain ⟨v2, vs2, d2, ds2, p2, q2, rfl, rfl, rfl, h2, r2⟩ := trodAll_cons r1
  obtain ⟨rfl, rfl, rfl⟩ := trodAll_nil r2
  obtain rfl : args = #[v0, v1, v2] := by cases args; simp_all
  obtain ⟨rfl, rfl⟩ := trodVars_none hV
  have k0 := h0
  have lt0 : ∀ x ∈ p0, x.block < W.heap.size := by obtain ⟨m, hm⟩ := k0; exact DataW.trod_lt m _ _ _ hm
  have k1 := h1
  have lt1 : ∀ x ∈ p1, x.block < W.heap.size := by obtain ⟨m, hm⟩ := k1; exact DataW.trod_lt m _ _ _ hm
  have k2 := h2
  have lt2 : ∀ x ∈ p2, x.block < W.heap.size := by obtain ⟨m, hm⟩ := k2; exact DataW.trod_lt m _ _ _ hm
  obtain ⟨c0_0, c0_1, y0_0, y0_1, m0, rfl, rfl, rfl, hy0_0, hy0_1⟩ := open_agg2 Try.underlying24 (by kernel_rfl) cells0 (hval 0 24 v0 rfl rfl) h0
  obtain ⟨d0, e0, rfl, q0⟩ := DataW.trod_int Try.underlying3 hy0_0
  simp at e0
  subst e0
  obtain ⟨A0, cap0, xs0, hcs0, l0, w0, _⟩ := openNumS hy0_1
  simp at hcs0
  subst hcs0
  obtain ⟨a1, rfl, rfl, rfl, w1⟩ := open_int Try.underlying3 (hval 1 3 v1 rfl rfl) h1
  obtain ⟨a2, rfl, rfl, rfl, w2⟩ := open_int Try.underlying3 (hval 2 3 v2 rfl rfl) h2
  clear hA0 hval0
  refine (walk W d0 A0 cap0 xs0 w0 l0 q0 a1 w1 a2 w2).mono fun e W' ⟨he, bel⟩ => ?_
  subst he
  exact ⟨_, rfl, _, _, _, [], _, [], hW', trodAll_mk1 (shut_bool Try.underlying4 _), (trodAll_cons_mk (Below.trod laidOut (by kernel_rfl) (of_decide_eq_true (by kernel_rfl)) k0 bel lt0) (trodAll_cons_mk (Below.trod laidOut (by kernel_rfl) (of_decide_eq_true (by kernel_rfl)) k1 bel lt1) (trodAll_cons_mk (Below.trod laidOut (by kernel_rfl) (of_decide_eq_true (by kernel_rfl)) k2 bel lt2) trodAll_mk0))), rfl, bel.frame _, fun h => by cases h⟩

theorem over : Rows.fnExactCitySetRow.holds Try.pinned (OpenSpec.ofChange Rows.fnExactCitySetSpec) :=
  OpenClaim.holds_of_wide 8 Try.f8 rfl rfl rfl rfl rfl rfl rfl ⟨rfl, rfl, rfl, rfl, rfl⟩ rfl rfl rfl rfl rfl (by kernel_rfl) Try.func8 (by kernel_rfl)
    (of_decide_eq_true (by kernel_rfl)) (by unfold Func.isWrapper; first | (rw [if_pos (by decide +kernel)]; kernel_rfl) | (rw [if_neg (by decide +kernel)]; exact ⟨rfl, rfl⟩))
    (fun os started H enc _ => lifted os started H enc)

/-- The statement. -/
theorem proved : Rows.FnExactCitySetSaid :=
  over
#print axioms proved
end Go.Proofs.Ytgkdfckaobfckaa.fnExactCitySet
