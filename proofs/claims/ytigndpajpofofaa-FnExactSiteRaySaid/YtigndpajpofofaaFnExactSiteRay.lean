/- FnExactSiteRay: whatever the input, the law returns true, and its arguments read as they did. No conditions beyond those of the statement's row. -/
import Derived.Laws.Rows
import Derived.Test.YtigndpajpofofaaEi
import Derived.Test.YtigndpajpofofaaEc
import Derived.Test.YtigndpajpofofaaGRay
namespace Go.Proofs.Ytigndpajpofofaa.fnExactSiteRay
open Go.Proofs.Ytigndpajpofofaa
open Go Go.RowKit
open Go.ChangeShapes Go.WideShapes Go.ChangeAt Go.RowKit Go.Joins
set_option linter.unusedVariables false
set_option linter.unusedSimpArgs false
set_option linter.unnecessarySimpa false

theorem own : ownKnob Try.prog.godebug = none := by kernel_rfl
theorem laidOut : laidOutB Try.prog = true := by kernel_rfl

set_option maxRecDepth 100000 in
set_option maxHeartbeats 4000000 in
theorem walk_true (w : World) (la dy mi e1 n1 fe fn fu ho ha ne lo hi st : Int) (up : Bool) (A0 : Option Addr) (cap0 : Nat) (xs0 : List VBlock) (w0 : SRow encBlock w A0 xs0) (l0 : xs0.length ≤ maxLen) (q0 : Wf la ∧ Wf dy ∧ Wf mi ∧ Wf e1 ∧ Wf n1 ∧ Wf fe ∧ Wf fn ∧ Wf fu ∧ Wf ho ∧ Wf ha ∧ Wf ne ∧ Wf lo ∧ Wf hi ∧ Wf st) (hv : srO la dy mi e1 n1 fe fn fu ho ha ne lo hi st xs0 = true) :
    Calls Try.prog 4 #[.agg #[.int .i64 la, .int .i64 dy, .int .i64 mi, .slice A0 xs0.length cap0, .int .i64 e1, .int .i64 n1, .int .i64 fe, .int .i64 fn, .int .i64 fu, .int .i64 ho, .int .i64 ha, .int .i64 ne, .int .i64 lo, .int .i64 hi, .bool up, .int .i64 st]] w fun e w' => e = .returned (.bool true) ∧ Below w.heap.size w w' := by
  have HV := Lib.hid hv
  clear hv
  obtain ⟨x, hx⟩ : ∃ v, srE la dy mi e1 n1 fe fn fu ho ha ne lo hi st xs0 = v := ⟨_, rfl⟩
  have HX := Lib.hid hx
  clear hx
  obtain ⟨y, hy⟩ : ∃ v, srN la dy mi e1 n1 fe fn fu ho ha ne lo hi st xs0 = v := ⟨_, rfl⟩
  have HY := Lib.hid hy
  clear hy
  obtain ⟨z, hz⟩ : ∃ v, srU la dy mi e1 n1 fe fn fu ho ha ne lo hi st xs0 = v := ⟨_, rfl⟩
  have HZ := Lib.hid hz
  clear hz
  have hP00 := blk_new w (.cells #[.int .i64 la, .int .i64 dy, .int .i64 mi, .slice A0 xs0.length cap0, .int .i64 e1, .int .i64 n1, .int .i64 fe, .int .i64 fn, .int .i64 fu, .int .i64 ho, .int .i64 ha, .int .i64 ne, .int .i64 lo, .int .i64 hi, .bool up, .int .i64 st] 32 (0, 0))
  have hW0 := w0
  clear q0
  have l0' := l0
  unfold maxLen at l0'
  go_enter Try.func4, Try.ntmps4
  go_wp2_with (first | (refine wpList_load_row rfl 32 _ rfl _ rfl _ _ (0, 0) _ (by assumption) Try.underlying32 rfl (by kernel_rfl) ?_) | (refine wpList_load_row rfl 41 _ rfl _ rfl _ _ (0, 0) _ (by assumption) Try.underlying41 rfl (by kernel_rfl) ?_))
  refine (szSite_any la dy mi e1 n1 fe fn fu ho ha ne lo hi st up A0 _ cap0 1048576 _ (by omega) (by omega) l0).mono ?_; rintro e' w1 ⟨r, rfl, hL, hw1⟩
  obtain ⟨hP1, hB1⟩ := ownb hw1
  rcases hL with rfl | ⟨r0, r1, hq⟩
  · go_wp2
    go_ret
    exact ⟨rfl, hB1⟩
  · have hr : ¬ r < 0 := by omega
    have hn : xs0.length ≤ 1048576 := by omega
    clear hq
    have hB0 := hB1
    have hP0 := hP1
    have hA_0 := hW0.next hB1
    go_wp2_with (first | (refine wpList_load_row rfl 32 _ rfl _ rfl _ _ (0, 0) _ (by assumption) Try.underlying32 rfl (by kernel_rfl) ?_) | (refine wpList_load_row rfl 41 _ rfl _ rfl _ _ (0, 0) _ (by assumption) Try.underlying41 rfl (by kernel_rfl) ?_))
    refine (toSite_any la dy mi e1 n1 fe fn fu ho ha ne lo hi st up A0 cap0 xs0 _ hA_0 (by omega)).mono ?_; rintro e' w1 ⟨gC, rfl, hgC, hC1, hw1⟩
    have hP1 := blk_next hP0 hw1
    have hA_1 := hA_0.next hw1
    have hB1 := bel_next hB0 hw1
    go_wp2_with (first | (refine wpList_load_row rfl 32 _ rfl _ rfl _ _ (0, 0) _ (by assumption) Try.underlying32 rfl (by kernel_rfl) ?_) | (refine wpList_load_row rfl 41 _ rfl _ rfl _ _ (0, 0) _ (by assumption) Try.underlying41 rfl (by kernel_rfl) ?_))
    refine (sSRv_is la dy mi e1 n1 fe fn fu ho ha ne lo hi st up _ _ xs0 _ rfl hC1.row (by omega) HX.out HY.out HZ.out HV.out).mono ?_; rintro e' w2 ⟨rfl, hw2⟩
    have hP2 := blk_next hP1 hw2
    have hA_2 := hA_1.next hw2
    have hC2 := hC1.next hw2
    have hB2 := bel_next hB1 hw2
    have hV3 := blk_new w2 (.cells #[.int .i64 x, .int .i64 y, .int .i64 z] 45 (0, 0))
    have hP3 := blk_old hP2 (.cells #[.int .i64 x, .int .i64 y, .int .i64 z] 45 (0, 0))
    have hB3 := hB2.alloc hB2.size (.cells #[.int .i64 x, .int .i64 y, .int .i64 z] 45 (0, 0))
    have hA_3 := hA_2.next (bel1 _ (.cells #[.int .i64 x, .int .i64 y, .int .i64 z] 45 (0, 0)))
    go_wp2_with (first | (refine wpList_load_row rfl 32 _ rfl _ rfl _ _ (0, 0) _ (by assumption) Try.underlying32 rfl (by kernel_rfl) ?_) | (refine wpList_load_row rfl 41 _ rfl _ rfl _ _ (0, 0) _ (by assumption) Try.underlying41 rfl (by kernel_rfl) ?_))
    refine (toSite_any la dy mi e1 n1 fe fn fu ho ha ne lo hi st up A0 cap0 xs0 _ hA_3 (by omega)).mono ?_; rintro e' w4 ⟨gD, rfl, hgD, hD4, hw4⟩
    have hP4 := blk_next hP3 hw4
    have hV4 := blk_next hV3 hw4
    have hA_4 := hA_3.next hw4
    have hB4 := bel_next hB3 hw4
    obtain ⟨zX, hzX⟩ : ∃ z, w4.heap.size = z := ⟨_, rfl⟩
    have hXl : w.heap.size < zX := by have := blk_lt hP4; omega
    have hDl := hD4.lt
    have hX5 := blk_new w4 (.cells #[.int .i64 la, .int .i64 dy, .int .i64 mi, .slice (some ⟨gD, 0, none⟩) xs0.length xs0.length, .int .i64 e1, .int .i64 n1, .int .i64 fe, .int .i64 fn, .int .i64 fu, .int .i64 ho, .int .i64 ha, .int .i64 ne, .int .i64 lo, .int .i64 hi, .bool up, .int .i64 st] 41 (0, 0))
    have hP5 := blk_old hP4 (.cells #[.int .i64 la, .int .i64 dy, .int .i64 mi, .slice (some ⟨gD, 0, none⟩) xs0.length xs0.length, .int .i64 e1, .int .i64 n1, .int .i64 fe, .int .i64 fn, .int .i64 fu, .int .i64 ho, .int .i64 ha, .int .i64 ne, .int .i64 lo, .int .i64 hi, .bool up, .int .i64 st] 41 (0, 0))
    have hV5 := blk_old hV4 (.cells #[.int .i64 la, .int .i64 dy, .int .i64 mi, .slice (some ⟨gD, 0, none⟩) xs0.length xs0.length, .int .i64 e1, .int .i64 n1, .int .i64 fe, .int .i64 fn, .int .i64 fu, .int .i64 ho, .int .i64 ha, .int .i64 ne, .int .i64 lo, .int .i64 hi, .bool up, .int .i64 st] 41 (0, 0))
    have hB5 := hB4.alloc hB4.size (.cells #[.int .i64 la, .int .i64 dy, .int .i64 mi, .slice (some ⟨gD, 0, none⟩) xs0.length xs0.length, .int .i64 e1, .int .i64 n1, .int .i64 fe, .int .i64 fn, .int .i64 fu, .int .i64 ho, .int .i64 ha, .int .i64 ne, .int .i64 lo, .int .i64 hi, .bool up, .int .i64 st] 41 (0, 0))
    have hA_5 := hA_4.next (bel1 _ (.cells #[.int .i64 la, .int .i64 dy, .int .i64 mi, .slice (some ⟨gD, 0, none⟩) xs0.length xs0.length, .int .i64 e1, .int .i64 n1, .int .i64 fe, .int .i64 fn, .int .i64 fu, .int .i64 ho, .int .i64 ha, .int .i64 ne, .int .i64 lo, .int .i64 hi, .bool up, .int .i64 st] 41 (0, 0)))
    have hD5 := hD4.next (bel1 _ (.cells #[.int .i64 la, .int .i64 dy, .int .i64 mi, .slice (some ⟨gD, 0, none⟩) xs0.length xs0.length, .int .i64 e1, .int .i64 n1, .int .i64 fe, .int .i64 fn, .int .i64 fu, .int .i64 ho, .int .i64 ha, .int .i64 ne, .int .i64 lo, .int .i64 hi, .bool up, .int .i64 st] 41 (0, 0)))
    rw [hzX] at hX5
    have HZX := Lib.hid hzX
    go_wp2_with (first | (refine wpList_load_row rfl 32 _ rfl _ rfl _ _ (0, 0) _ (by assumption) Try.underlying32 rfl (by kernel_rfl) ?_) | (refine wpList_load_row rfl 41 _ rfl _ rfl _ _ (0, 0) _ (by assumption) Try.underlying41 rfl (by kernel_rfl) ?_))
    refine (iSRv_is la dy mi e1 n1 fe fn fu ho ha ne lo hi st up _ _ xs0 _ rfl hD5.row (by omega) HX.out HY.out HZ.out HV.out).mono ?_; rintro e' w6 ⟨rfl, hw6⟩
    have hP6 := blk_next hP5 hw6
    have hV6 := blk_next hV5 hw6
    have hX6 := blk_next hX5 hw6
    have hA_6 := hA_5.next hw6
    have hD6 := hD5.next hw6
    have hB6 := bel_next hB5 hw6
    have hU7 := blk_new w6 (.cells #[.int .i64 x, .int .i64 y, .int .i64 z] 45 (0, 0))
    have hP7 := blk_old hP6 (.cells #[.int .i64 x, .int .i64 y, .int .i64 z] 45 (0, 0))
    have hV7 := blk_old hV6 (.cells #[.int .i64 x, .int .i64 y, .int .i64 z] 45 (0, 0))
    have hX7 := blk_old hX6 (.cells #[.int .i64 x, .int .i64 y, .int .i64 z] 45 (0, 0))
    have hB7 := hB6.alloc hB6.size (.cells #[.int .i64 x, .int .i64 y, .int .i64 z] 45 (0, 0))
    have hA_7 := hA_6.next (bel1 _ (.cells #[.int .i64 x, .int .i64 y, .int .i64 z] 45 (0, 0)))
    have hD7 := hD6.next (bel1 _ (.cells #[.int .i64 x, .int .i64 y, .int .i64 z] 45 (0, 0)))
    obtain ⟨cV0, cV1, cV2, fV0, fV1, fV2, zV9⟩ := blk3 hV7
    obtain ⟨cU0, cU1, cU2, fU0, fU1, fU2, zU9⟩ := blk3 hU7
    go_wp2_with (first | (refine wpList_load_row rfl 32 _ rfl _ rfl _ _ (0, 0) _ (by assumption) Try.underlying32 rfl (by kernel_rfl) ?_) | (refine wpList_load_row rfl 41 _ rfl _ rfl _ _ (0, 0) _ (by assumption) Try.underlying41 rfl (by kernel_rfl) ?_))
    refine (eqRay_same x y z _).mono ?_; rintro e' w8 ⟨rfl, hw8⟩
    have hP8 := blk_next hP7 hw8
    have hV8 := blk_next hV7 hw8
    have hX8 := blk_next hX7 hw8
    have hU8 := blk_next hU7 hw8
    have hA_8 := hA_7.next hw8
    have hD8 := hD7.next hw8
    have hB8 := bel_next hB7 hw8
    clear cV0 fV0 cV1 fV1 cV2 fV2 cU0 fU0 cU1 fU1 cU2 fU2
    go_wp2_with (first | (refine wpList_load_row rfl 32 _ rfl _ rfl _ _ (0, 0) _ (by assumption) Try.underlying32 rfl (by kernel_rfl) ?_) | (refine wpList_load_row rfl 41 _ rfl _ rfl _ _ (0, 0) _ (by assumption) Try.underlying41 rfl (by kernel_rfl) ?_))
    refine wp_region_held_drew (S := (fun w' => w'.heap[w.heap.size]? = some (.cells #[.int .i64 la, .int .i64 dy, .int .i64 mi, .slice A0 xs0.length cap0, .int .i64 e1, .int .i64 n1, .int .i64 fe, .int .i64 fn, .int .i64 fu, .int .i64 ho, .int .i64 ha, .int .i64 ne, .int .i64 lo, .int .i64 hi, .bool up, .int .i64 st] 32 (0, 0)) ∧ w'.heap[zX]? = some (.cells #[.int .i64 la, .int .i64 dy, .int .i64 mi, .slice (some ⟨gD, 0, none⟩) xs0.length xs0.length, .int .i64 e1, .int .i64 n1, .int .i64 fe, .int .i64 fn, .int .i64 fu, .int .i64 ho, .int .i64 ha, .int .i64 ne, .int .i64 lo, .int .i64 hi, .bool up, .int .i64 st] 41 (0, 0)) ∧ SRow encBlock w' A0 xs0 ∧ SBlk encBlock w' gD 85 xs0 ∧ Below w.heap.size w w')) (by kernel_rfl) ⟨hP8, hX8, hA_8, hD8, hB8.drew⟩ (fun hHeld => ?_)
    obtain ⟨hP_0, hX_0, hA_0, hD_0, hB_0⟩ := id hHeld
    refine wpAnyH_take (i := 0) (oi := _) (v := ?_) rfl (by kernel_rfl) (by kernel_rfl) (by kernel_rfl) (fun _ _ _ h => h) (Or.inl ⟨by rfl, ?_⟩) (by assumption) ?_
    (rotate_left); (focus (intro wv hSw; (obtain ⟨qP, qX, qA, qD, qB⟩ := hSw); obtain ⟨u0, u1, u2, u3, u4, u5, u6, u7, u8, u9, u10, u11, u12, u13, u14, u15, _, _, _, _, _, _, _, _, _, _, _, _, _, _, _, _, _⟩ := blk16 qX; go_simp; (try with_reducible rfl)))
    try simp only [Act.put, List.getElem_toArray, List.getElem_cons_succ, List.getElem_cons_zero, List.setIfInBounds_toArray, List.set_cons_zero, List.set_cons_succ]
    refine wpAnyH_take (i := 1) (oi := _) (v := ?_) rfl (by kernel_rfl) (by kernel_rfl) (by kernel_rfl) (fun _ _ _ h => h) (Or.inl ⟨by rfl, ?_⟩) (by assumption) ?_
    (rotate_left); (focus (intro wv hSw; (obtain ⟨qP, qX, qA, qD, qB⟩ := hSw); obtain ⟨u0, u1, u2, u3, u4, u5, u6, u7, u8, u9, u10, u11, u12, u13, u14, u15, _, _, _, _, _, _, _, _, _, _, _, _, _, _, _, _, _⟩ := blk16 qP; go_simp; (try with_reducible rfl)))
    try simp only [Act.put, List.getElem_toArray, List.getElem_cons_succ, List.getElem_cons_zero, List.setIfInBounds_toArray, List.set_cons_zero, List.set_cons_succ]
    refine wpAnyH_ready (rs := [2]) (by kernel_rfl) (by simp) ?_
    refine AllReadyH.cons (o := _) rfl (fun K hK => ?_) AllReadyH.nil
    go_simp
    (go_at_call 9; refine (toSite_any la dy mi e1 n1 fe fn fu ho ha ne lo hi st up A0 cap0 xs0 _ hA_0 (by omega)).mono ?_; rintro e x0c ⟨gE, rfl, hgE, hE_0c, hw_0c⟩)
    refine hK.out _ _ ⟨blk_next hP_0 hw_0c, blk_next hX_0 hw_0c, hA_0.next hw_0c, hD_0.next hw_0c, bel_next hB_0 hw_0c⟩ (fun hHeld => ?_)
    clear hK K
    try simp only [Act.put, List.getElem_toArray, List.getElem_cons_succ, List.getElem_cons_zero, List.setIfInBounds_toArray, List.set_cons_zero, List.set_cons_succ]
    obtain ⟨hP_0c, hX_0c, hA_0c, hD_0c, hB_0c⟩ := id hHeld
    refine wpAnyH_ready (rs := [3]) (by kernel_rfl) (by simp) ?_
    refine AllReadyH.cons (o := _) rfl (fun K hK => ?_) AllReadyH.nil
    go_simp
    (go_at_call 11; refine (eqSite_same la dy mi e1 n1 fe fn fu ho ha ne lo hi st up _ _ _ _ xs0 rfl hD_0c.row hE_0c.row (by omega)).mono ?_; rintro e x0cc ⟨rfl, hw_0cc⟩)
    refine hK.out _ _ ⟨blk_next hP_0c hw_0cc, blk_next hX_0c hw_0cc, hA_0c.next hw_0cc, hD_0c.next hw_0cc, bel_next hB_0c hw_0cc⟩ (fun hHeld => ?_)
    clear hK K
    try simp only [Act.put, List.getElem_toArray, List.getElem_cons_succ, List.getElem_cons_zero, List.setIfInBounds_toArray, List.set_cons_zero, List.set_cons_succ]
    obtain ⟨hP_0cc, hX_0cc, hA_0cc, hD_0cc, hB_0cc⟩ := id hHeld
    refine wpAnyH_take (i := 4) (oi := _) (v := ?_) rfl (by kernel_rfl) (by kernel_rfl) (by kernel_rfl) (fun _ _ _ h => h) (Or.inl ⟨by rfl, ?_⟩) (by assumption) ?_
    (rotate_left); (focus (intro wv hSw; (obtain ⟨qP, qX, qA, qD, qB⟩ := hSw);  go_simp; (try with_reducible rfl)))
    try simp only [Act.put, List.getElem_toArray, List.getElem_cons_succ, List.getElem_cons_zero, List.setIfInBounds_toArray, List.set_cons_zero, List.set_cons_succ]
    refine wpAnyH_done (by kernel_rfl) ?_ _
    have hP9 := hP_0cc
    have hX9 := hX_0cc
    have hA_9 := hA_0cc
    have hD9 := hD_0cc
    have hB9 := hB_0cc
    go_wp2
    go_ret
    exact ⟨rfl, hB9⟩

set_option maxRecDepth 100000 in
set_option maxHeartbeats 4000000 in
theorem walk_false (w : World) (la dy mi e1 n1 fe fn fu ho ha ne lo hi st : Int) (up : Bool) (A0 : Option Addr) (cap0 : Nat) (xs0 : List VBlock) (w0 : SRow encBlock w A0 xs0) (l0 : xs0.length ≤ maxLen) (q0 : Wf la ∧ Wf dy ∧ Wf mi ∧ Wf e1 ∧ Wf n1 ∧ Wf fe ∧ Wf fn ∧ Wf fu ∧ Wf ho ∧ Wf ha ∧ Wf ne ∧ Wf lo ∧ Wf hi ∧ Wf st) (hv : srO la dy mi e1 n1 fe fn fu ho ha ne lo hi st xs0 = false) :
    Calls Try.prog 4 #[.agg #[.int .i64 la, .int .i64 dy, .int .i64 mi, .slice A0 xs0.length cap0, .int .i64 e1, .int .i64 n1, .int .i64 fe, .int .i64 fn, .int .i64 fu, .int .i64 ho, .int .i64 ha, .int .i64 ne, .int .i64 lo, .int .i64 hi, .bool up, .int .i64 st]] w fun e w' => e = .returned (.bool true) ∧ Below w.heap.size w w' := by
  have HV := Lib.hid hv
  clear hv
  obtain ⟨x, hx⟩ : ∃ v, srE la dy mi e1 n1 fe fn fu ho ha ne lo hi st xs0 = v := ⟨_, rfl⟩
  have HX := Lib.hid hx
  clear hx
  obtain ⟨y, hy⟩ : ∃ v, srN la dy mi e1 n1 fe fn fu ho ha ne lo hi st xs0 = v := ⟨_, rfl⟩
  have HY := Lib.hid hy
  clear hy
  obtain ⟨z, hz⟩ : ∃ v, srU la dy mi e1 n1 fe fn fu ho ha ne lo hi st xs0 = v := ⟨_, rfl⟩
  have HZ := Lib.hid hz
  clear hz
  have hP00 := blk_new w (.cells #[.int .i64 la, .int .i64 dy, .int .i64 mi, .slice A0 xs0.length cap0, .int .i64 e1, .int .i64 n1, .int .i64 fe, .int .i64 fn, .int .i64 fu, .int .i64 ho, .int .i64 ha, .int .i64 ne, .int .i64 lo, .int .i64 hi, .bool up, .int .i64 st] 32 (0, 0))
  have hW0 := w0
  clear q0
  have l0' := l0
  unfold maxLen at l0'
  go_enter Try.func4, Try.ntmps4
  go_wp2_with (first | (refine wpList_load_row rfl 32 _ rfl _ rfl _ _ (0, 0) _ (by assumption) Try.underlying32 rfl (by kernel_rfl) ?_) | (refine wpList_load_row rfl 41 _ rfl _ rfl _ _ (0, 0) _ (by assumption) Try.underlying41 rfl (by kernel_rfl) ?_))
  refine (szSite_any la dy mi e1 n1 fe fn fu ho ha ne lo hi st up A0 _ cap0 1048576 _ (by omega) (by omega) l0).mono ?_; rintro e' w1 ⟨r, rfl, hL, hw1⟩
  obtain ⟨hP1, hB1⟩ := ownb hw1
  rcases hL with rfl | ⟨r0, r1, hq⟩
  · go_wp2
    go_ret
    exact ⟨rfl, hB1⟩
  · have hr : ¬ r < 0 := by omega
    have hn : xs0.length ≤ 1048576 := by omega
    clear hq
    have hB0 := hB1
    have hP0 := hP1
    have hA_0 := hW0.next hB1
    go_wp2_with (first | (refine wpList_load_row rfl 32 _ rfl _ rfl _ _ (0, 0) _ (by assumption) Try.underlying32 rfl (by kernel_rfl) ?_) | (refine wpList_load_row rfl 41 _ rfl _ rfl _ _ (0, 0) _ (by assumption) Try.underlying41 rfl (by kernel_rfl) ?_))
    refine (toSite_any la dy mi e1 n1 fe fn fu ho ha ne lo hi st up A0 cap0 xs0 _ hA_0 (by omega)).mono ?_; rintro e' w1 ⟨gC, rfl, hgC, hC1, hw1⟩
    have hP1 := blk_next hP0 hw1
    have hA_1 := hA_0.next hw1
    have hB1 := bel_next hB0 hw1
    go_wp2_with (first | (refine wpList_load_row rfl 32 _ rfl _ rfl _ _ (0, 0) _ (by assumption) Try.underlying32 rfl (by kernel_rfl) ?_) | (refine wpList_load_row rfl 41 _ rfl _ rfl _ _ (0, 0) _ (by assumption) Try.underlying41 rfl (by kernel_rfl) ?_))
    refine (sSRv_is la dy mi e1 n1 fe fn fu ho ha ne lo hi st up _ _ xs0 _ rfl hC1.row (by omega) HX.out HY.out HZ.out HV.out).mono ?_; rintro e' w2 ⟨rfl, hw2⟩
    have hP2 := blk_next hP1 hw2
    have hA_2 := hA_1.next hw2
    have hC2 := hC1.next hw2
    have hB2 := bel_next hB1 hw2
    have hV3 := blk_new w2 (.cells #[.int .i64 x, .int .i64 y, .int .i64 z] 45 (0, 0))
    have hP3 := blk_old hP2 (.cells #[.int .i64 x, .int .i64 y, .int .i64 z] 45 (0, 0))
    have hB3 := hB2.alloc hB2.size (.cells #[.int .i64 x, .int .i64 y, .int .i64 z] 45 (0, 0))
    have hA_3 := hA_2.next (bel1 _ (.cells #[.int .i64 x, .int .i64 y, .int .i64 z] 45 (0, 0)))
    go_wp2_with (first | (refine wpList_load_row rfl 32 _ rfl _ rfl _ _ (0, 0) _ (by assumption) Try.underlying32 rfl (by kernel_rfl) ?_) | (refine wpList_load_row rfl 41 _ rfl _ rfl _ _ (0, 0) _ (by assumption) Try.underlying41 rfl (by kernel_rfl) ?_))
    refine (toSite_any la dy mi e1 n1 fe fn fu ho ha ne lo hi st up A0 cap0 xs0 _ hA_3 (by omega)).mono ?_; rintro e' w4 ⟨gD, rfl, hgD, hD4, hw4⟩
    have hP4 := blk_next hP3 hw4
    have hV4 := blk_next hV3 hw4
    have hA_4 := hA_3.next hw4
    have hB4 := bel_next hB3 hw4
    obtain ⟨zX, hzX⟩ : ∃ z, w4.heap.size = z := ⟨_, rfl⟩
    have hXl : w.heap.size < zX := by have := blk_lt hP4; omega
    have hDl := hD4.lt
    have hX5 := blk_new w4 (.cells #[.int .i64 la, .int .i64 dy, .int .i64 mi, .slice (some ⟨gD, 0, none⟩) xs0.length xs0.length, .int .i64 e1, .int .i64 n1, .int .i64 fe, .int .i64 fn, .int .i64 fu, .int .i64 ho, .int .i64 ha, .int .i64 ne, .int .i64 lo, .int .i64 hi, .bool up, .int .i64 st] 41 (0, 0))
    have hP5 := blk_old hP4 (.cells #[.int .i64 la, .int .i64 dy, .int .i64 mi, .slice (some ⟨gD, 0, none⟩) xs0.length xs0.length, .int .i64 e1, .int .i64 n1, .int .i64 fe, .int .i64 fn, .int .i64 fu, .int .i64 ho, .int .i64 ha, .int .i64 ne, .int .i64 lo, .int .i64 hi, .bool up, .int .i64 st] 41 (0, 0))
    have hV5 := blk_old hV4 (.cells #[.int .i64 la, .int .i64 dy, .int .i64 mi, .slice (some ⟨gD, 0, none⟩) xs0.length xs0.length, .int .i64 e1, .int .i64 n1, .int .i64 fe, .int .i64 fn, .int .i64 fu, .int .i64 ho, .int .i64 ha, .int .i64 ne, .int .i64 lo, .int .i64 hi, .bool up, .int .i64 st] 41 (0, 0))
    have hB5 := hB4.alloc hB4.size (.cells #[.int .i64 la, .int .i64 dy, .int .i64 mi, .slice (some ⟨gD, 0, none⟩) xs0.length xs0.length, .int .i64 e1, .int .i64 n1, .int .i64 fe, .int .i64 fn, .int .i64 fu, .int .i64 ho, .int .i64 ha, .int .i64 ne, .int .i64 lo, .int .i64 hi, .bool up, .int .i64 st] 41 (0, 0))
    have hA_5 := hA_4.next (bel1 _ (.cells #[.int .i64 la, .int .i64 dy, .int .i64 mi, .slice (some ⟨gD, 0, none⟩) xs0.length xs0.length, .int .i64 e1, .int .i64 n1, .int .i64 fe, .int .i64 fn, .int .i64 fu, .int .i64 ho, .int .i64 ha, .int .i64 ne, .int .i64 lo, .int .i64 hi, .bool up, .int .i64 st] 41 (0, 0)))
    have hD5 := hD4.next (bel1 _ (.cells #[.int .i64 la, .int .i64 dy, .int .i64 mi, .slice (some ⟨gD, 0, none⟩) xs0.length xs0.length, .int .i64 e1, .int .i64 n1, .int .i64 fe, .int .i64 fn, .int .i64 fu, .int .i64 ho, .int .i64 ha, .int .i64 ne, .int .i64 lo, .int .i64 hi, .bool up, .int .i64 st] 41 (0, 0)))
    rw [hzX] at hX5
    have HZX := Lib.hid hzX
    go_wp2_with (first | (refine wpList_load_row rfl 32 _ rfl _ rfl _ _ (0, 0) _ (by assumption) Try.underlying32 rfl (by kernel_rfl) ?_) | (refine wpList_load_row rfl 41 _ rfl _ rfl _ _ (0, 0) _ (by assumption) Try.underlying41 rfl (by kernel_rfl) ?_))
    refine (iSRv_is la dy mi e1 n1 fe fn fu ho ha ne lo hi st up _ _ xs0 _ rfl hD5.row (by omega) HX.out HY.out HZ.out HV.out).mono ?_; rintro e' w6 ⟨rfl, hw6⟩
    have hP6 := blk_next hP5 hw6
    have hV6 := blk_next hV5 hw6
    have hX6 := blk_next hX5 hw6
    have hA_6 := hA_5.next hw6
    have hD6 := hD5.next hw6
    have hB6 := bel_next hB5 hw6
    have hU7 := blk_new w6 (.cells #[.int .i64 x, .int .i64 y, .int .i64 z] 45 (0, 0))
    have hP7 := blk_old hP6 (.cells #[.int .i64 x, .int .i64 y, .int .i64 z] 45 (0, 0))
    have hV7 := blk_old hV6 (.cells #[.int .i64 x, .int .i64 y, .int .i64 z] 45 (0, 0))
    have hX7 := blk_old hX6 (.cells #[.int .i64 x, .int .i64 y, .int .i64 z] 45 (0, 0))
    have hB7 := hB6.alloc hB6.size (.cells #[.int .i64 x, .int .i64 y, .int .i64 z] 45 (0, 0))
    have hA_7 := hA_6.next (bel1 _ (.cells #[.int .i64 x, .int .i64 y, .int .i64 z] 45 (0, 0)))
    have hD7 := hD6.next (bel1 _ (.cells #[.int .i64 x, .int .i64 y, .int .i64 z] 45 (0, 0)))
    obtain ⟨cV0, cV1, cV2, fV0, fV1, fV2, zV9⟩ := blk3 hV7
    obtain ⟨cU0, cU1, cU2, fU0, fU1, fU2, zU9⟩ := blk3 hU7
    go_wp2_with (first | (refine wpList_load_row rfl 32 _ rfl _ rfl _ _ (0, 0) _ (by assumption) Try.underlying32 rfl (by kernel_rfl) ?_) | (refine wpList_load_row rfl 41 _ rfl _ rfl _ _ (0, 0) _ (by assumption) Try.underlying41 rfl (by kernel_rfl) ?_))
    refine (eqRay_same x y z _).mono ?_; rintro e' w8 ⟨rfl, hw8⟩
    have hP8 := blk_next hP7 hw8
    have hV8 := blk_next hV7 hw8
    have hX8 := blk_next hX7 hw8
    have hU8 := blk_next hU7 hw8
    have hA_8 := hA_7.next hw8
    have hD8 := hD7.next hw8
    have hB8 := bel_next hB7 hw8
    clear cV0 fV0 cV1 fV1 cV2 fV2 cU0 fU0 cU1 fU1 cU2 fU2
    go_wp2_with (first | (refine wpList_load_row rfl 32 _ rfl _ rfl _ _ (0, 0) _ (by assumption) Try.underlying32 rfl (by kernel_rfl) ?_) | (refine wpList_load_row rfl 41 _ rfl _ rfl _ _ (0, 0) _ (by assumption) Try.underlying41 rfl (by kernel_rfl) ?_))
    refine wp_region_held_drew (S := (fun w' => w'.heap[w.heap.size]? = some (.cells #[.int .i64 la, .int .i64 dy, .int .i64 mi, .slice A0 xs0.length cap0, .int .i64 e1, .int .i64 n1, .int .i64 fe, .int .i64 fn, .int .i64 fu, .int .i64 ho, .int .i64 ha, .int .i64 ne, .int .i64 lo, .int .i64 hi, .bool up, .int .i64 st] 32 (0, 0)) ∧ w'.heap[zX]? = some (.cells #[.int .i64 la, .int .i64 dy, .int .i64 mi, .slice (some ⟨gD, 0, none⟩) xs0.length xs0.length, .int .i64 e1, .int .i64 n1, .int .i64 fe, .int .i64 fn, .int .i64 fu, .int .i64 ho, .int .i64 ha, .int .i64 ne, .int .i64 lo, .int .i64 hi, .bool up, .int .i64 st] 41 (0, 0)) ∧ SRow encBlock w' A0 xs0 ∧ SBlk encBlock w' gD 85 xs0 ∧ Below w.heap.size w w')) (by kernel_rfl) ⟨hP8, hX8, hA_8, hD8, hB8.drew⟩ (fun hHeld => ?_)
    obtain ⟨hP_0, hX_0, hA_0, hD_0, hB_0⟩ := id hHeld
    refine wpAnyH_take (i := 0) (oi := _) (v := ?_) rfl (by kernel_rfl) (by kernel_rfl) (by kernel_rfl) (fun _ _ _ h => h) (Or.inl ⟨by rfl, ?_⟩) (by assumption) ?_
    (rotate_left); (focus (intro wv hSw; (obtain ⟨qP, qX, qA, qD, qB⟩ := hSw); obtain ⟨u0, u1, u2, u3, u4, u5, u6, u7, u8, u9, u10, u11, u12, u13, u14, u15, _, _, _, _, _, _, _, _, _, _, _, _, _, _, _, _, _⟩ := blk16 qX; go_simp; (try with_reducible rfl)))
    try simp only [Act.put, List.getElem_toArray, List.getElem_cons_succ, List.getElem_cons_zero, List.setIfInBounds_toArray, List.set_cons_zero, List.set_cons_succ]
    refine wpAnyH_take (i := 1) (oi := _) (v := ?_) rfl (by kernel_rfl) (by kernel_rfl) (by kernel_rfl) (fun _ _ _ h => h) (Or.inl ⟨by rfl, ?_⟩) (by assumption) ?_
    (rotate_left); (focus (intro wv hSw; (obtain ⟨qP, qX, qA, qD, qB⟩ := hSw); obtain ⟨u0, u1, u2, u3, u4, u5, u6, u7, u8, u9, u10, u11, u12, u13, u14, u15, _, _, _, _, _, _, _, _, _, _, _, _, _, _, _, _, _⟩ := blk16 qP; go_simp; (try with_reducible rfl)))
    try simp only [Act.put, List.getElem_toArray, List.getElem_cons_succ, List.getElem_cons_zero, List.setIfInBounds_toArray, List.set_cons_zero, List.set_cons_succ]
    refine wpAnyH_ready (rs := [2]) (by kernel_rfl) (by simp) ?_
    refine AllReadyH.cons (o := _) rfl (fun K hK => ?_) AllReadyH.nil
    go_simp
    (go_at_call 9; refine (toSite_any la dy mi e1 n1 fe fn fu ho ha ne lo hi st up A0 cap0 xs0 _ hA_0 (by omega)).mono ?_; rintro e x0c ⟨gE, rfl, hgE, hE_0c, hw_0c⟩)
    refine hK.out _ _ ⟨blk_next hP_0 hw_0c, blk_next hX_0 hw_0c, hA_0.next hw_0c, hD_0.next hw_0c, bel_next hB_0 hw_0c⟩ (fun hHeld => ?_)
    clear hK K
    try simp only [Act.put, List.getElem_toArray, List.getElem_cons_succ, List.getElem_cons_zero, List.setIfInBounds_toArray, List.set_cons_zero, List.set_cons_succ]
    obtain ⟨hP_0c, hX_0c, hA_0c, hD_0c, hB_0c⟩ := id hHeld
    refine wpAnyH_ready (rs := [3]) (by kernel_rfl) (by simp) ?_
    refine AllReadyH.cons (o := _) rfl (fun K hK => ?_) AllReadyH.nil
    go_simp
    (go_at_call 11; refine (eqSite_same la dy mi e1 n1 fe fn fu ho ha ne lo hi st up _ _ _ _ xs0 rfl hD_0c.row hE_0c.row (by omega)).mono ?_; rintro e x0cc ⟨rfl, hw_0cc⟩)
    refine hK.out _ _ ⟨blk_next hP_0c hw_0cc, blk_next hX_0c hw_0cc, hA_0c.next hw_0cc, hD_0c.next hw_0cc, bel_next hB_0c hw_0cc⟩ (fun hHeld => ?_)
    clear hK K
    try simp only [Act.put, List.getElem_toArray, List.getElem_cons_succ, List.getElem_cons_zero, List.setIfInBounds_toArray, List.set_cons_zero, List.set_cons_succ]
    obtain ⟨hP_0cc, hX_0cc, hA_0cc, hD_0cc, hB_0cc⟩ := id hHeld
    refine wpAnyH_take (i := 4) (oi := _) (v := ?_) rfl (by kernel_rfl) (by kernel_rfl) (by kernel_rfl) (fun _ _ _ h => h) (Or.inl ⟨by rfl, ?_⟩) (by assumption) ?_
    (rotate_left); (focus (intro wv hSw; (obtain ⟨qP, qX, qA, qD, qB⟩ := hSw);  go_simp; (try with_reducible rfl)))
    try simp only [Act.put, List.getElem_toArray, List.getElem_cons_succ, List.getElem_cons_zero, List.setIfInBounds_toArray, List.set_cons_zero, List.set_cons_succ]
    refine wpAnyH_done (by kernel_rfl) ?_ _
    have hP9 := hP_0cc
    have hX9 := hX_0cc
    have hA_9 := hA_0cc
    have hD9 := hD_0cc
    have hB9 := hB_0cc
    go_wp2
    go_ret
    exact ⟨rfl, hB9⟩

set_option maxRecDepth 100000 in
set_option maxHeartbeats 4000000 in
theorem walk (w : World) (la dy mi e1 n1 fe fn fu ho ha ne lo hi st : Int) (up : Bool) (A0 : Option Addr) (cap0 : Nat) (xs0 : List VBlock) (w0 : SRow encBlock w A0 xs0) (l0 : xs0.length ≤ maxLen) (q0 : Wf la ∧ Wf dy ∧ Wf mi ∧ Wf e1 ∧ Wf n1 ∧ Wf fe ∧ Wf fn ∧ Wf fu ∧ Wf ho ∧ Wf ha ∧ Wf ne ∧ Wf lo ∧ Wf hi ∧ Wf st) :
    Calls Try.prog 4 #[.agg #[.int .i64 la, .int .i64 dy, .int .i64 mi, .slice A0 xs0.length cap0, .int .i64 e1, .int .i64 n1, .int .i64 fe, .int .i64 fn, .int .i64 fu, .int .i64 ho, .int .i64 ha, .int .i64 ne, .int .i64 lo, .int .i64 hi, .bool up, .int .i64 st]] w fun e w' => e = .returned (.bool true) ∧ Below w.heap.size w w' := by
  cases hv : srO la dy mi e1 n1 fe fn fu ho ha ne lo hi st xs0
  · exact walk_false w la dy mi e1 n1 fe fn fu ho ha ne lo hi st up A0 cap0 xs0 w0 l0 q0 hv
  · exact walk_true w la dy mi e1 n1 fe fn fu ho ha ne lo hi st up A0 cap0 xs0 w0 l0 q0 hv

set_option maxRecDepth 100000 in
theorem lifted (os : Os) (started : os.Started) (H : Type) (enc : TypeId × Value → H) :
    ReturnsInHanded {} Try.checked os 4 .any (Rows.fnExactSiteRaySpec.pre6 enc Try.prog Try.f4 Rows.fnExactSiteRayRow.domain false) (Rows.fnExactSiteRaySpec.post enc Try.prog Try.f4 false true false false) := by
  refine returnsInHanded_of_change (C := Try.checked) own started (by kernel_rfl) Try.func4
    (ChangeSpec.witness6 (enc := enc) (C := Try.checked) false ⟨#[], #[.agg #[.int .i64 0, .int .i64 0, .int .i64 0, .slice none 0 0, .int .i64 0, .int .i64 0, .int .i64 0, .int .i64 0, .int .i64 0, .int .i64 0, .int .i64 0, .int .i64 0, .int .i64 0, .int .i64 0, .bool false, .int .i64 0]], []⟩ 8 (by kernel_rfl) (by kernel_rfl) (by kernel_rfl) (by kernel_rfl)) ?_
  intro W base args ds gs before hval0 hW hcnd _
  have hval : ∀ (j : Nat) t v, Try.f4.params[j]? = some t → args[j]? = some v → Value.okWide Try.prog W .any base t v := hval0
  have hW' := hW
  obtain ⟨p, q, hA0, hV, rfl, hfz, hnd⟩ := hW
  have hA : DataW.TrodAll enc Try.prog W 0 (fun _ => true) true Try.f4.params.toList args.toList ds p := hA0
  rw [Try.params4] at hA hval
  obtain ⟨v0, vs0, d0, ds0, p0, q0, hargs, rfl, rfl, h0, r0⟩ := trodAll_cons hA
  obtain ⟨rfl, rfl, rfl⟩ := trodAll_nil r0
  obtain rfl : args = #[v0] := by cases args; simp_all
  obtain ⟨rfl, rfl⟩ := trodVars_none hV
  have k0 := h0
  have lt0 : ∀ x ∈ p0, x.block < W.heap.size := by obtain ⟨m, hm⟩ := k0; exact DataW.trod_lt m _ _ _ hm
  obtain ⟨la, dy, mi, e1, n1, fe, fn, fu, ho, ha, ne, lo, hi, st, up, A0, cap0, xs0, rfl, w0, l0, q0⟩ := openSite (hval 0 32 v0 rfl rfl) h0
  clear hA0 hval0
  refine (walk W la dy mi e1 n1 fe fn fu ho ha ne lo hi st up A0 cap0 xs0 w0 l0 q0).mono fun e W' ⟨he, bel⟩ => ?_
  subst he
  exact ⟨_, rfl, _, _, _, [], _, [], hW', trodAll_mk1 (shut_bool Try.underlying4 _), (trodAll_cons_mk (Below.trod laidOut (by kernel_rfl) (of_decide_eq_true (by kernel_rfl)) k0 bel lt0) trodAll_mk0), rfl, bel.frame _, fun h => by cases h⟩

theorem over : Rows.fnExactSiteRayRow.holds Try.pinned (OpenSpec.ofChange Rows.fnExactSiteRaySpec) :=
  OpenClaim.holds_of_wide 4 Try.f4 rfl rfl rfl rfl rfl rfl rfl ⟨rfl, rfl, rfl, rfl, rfl⟩ rfl rfl rfl rfl rfl (by kernel_rfl) Try.func4 (by kernel_rfl)
    (of_decide_eq_true (by kernel_rfl)) (by unfold Func.isWrapper; first | (rw [if_pos (by decide +kernel)]; kernel_rfl) | (rw [if_neg (by decide +kernel)]; exact ⟨rfl, rfl⟩))
    (fun os started H enc _ => lifted os started H enc)

/-- The statement. -/
theorem proved : Rows.FnExactSiteRaySaid :=
  over
#print axioms proved
end Go.Proofs.Ytigndpajpofofaa.fnExactSiteRay
