/- FnExactSiteTick: whatever the input, the law returns true, and its arguments read as they did. No conditions beyond those of the statement's row. -/
import Derived.Laws.Rows
import Derived.Test.YtigndpajpofofaaGreatMQM
import Derived.Test.YtigndpajpofofaaGreatMQH
namespace Go.Proofs.YtigndpajpofofaaGreat.fnExactSiteTick
open Go.Proofs.YtigndpajpofofaaGreat
open Go Go.RowKit
open Go.ChangeShapes Go.WideShapes Go.ChangeAt Go.RowKit Go.Joins
set_option linter.unusedVariables false
set_option linter.unusedSimpArgs false
set_option linter.unnecessarySimpa false
theorem own : ownKnob Tryz.prog.godebug = none := by kernel_rfl
theorem laidOut : laidOutB Tryz.prog = true := by kernel_rfl
set_option maxRecDepth 100000 in
set_option maxHeartbeats 4000000 in
theorem walk (w : World) (la dy mi e1 n1 fe fn fu ho ha ne lo hi st : Int) (up : Bool) (A0 : Option Addr) (cap0 : Nat) (xs0 : List VBlock) (w0 : SRow encBlock w A0 xs0) (l0 : xs0.length ≤ maxLen) (q0 : Wf la ∧ Wf dy ∧ Wf mi ∧ Wf e1 ∧ Wf n1 ∧ Wf fe ∧ Wf fn ∧ Wf fu ∧ Wf ho ∧ Wf ha ∧ Wf ne ∧ Wf lo ∧ Wf hi ∧ Wf st) :
    Calls Tryz.prog 3 #[.agg #[.int .i64 la, .int .i64 dy, .int .i64 mi, .slice A0 xs0.length cap0, .int .i64 e1, .int .i64 n1, .int .i64 fe, .int .i64 fn, .int .i64 fu, .int .i64 ho, .int .i64 ha, .int .i64 ne, .int .i64 lo, .int .i64 hi, .bool up, .int .i64 st]] w fun e w' => e = .returned (.bool true) ∧ Below w.heap.size w w' := by
  obtain ⟨v0, v1, v2, v3, v4, v5, v6, v7, v8, v9, v10, v11, v12, v13, vb, l, hr9⟩ : ∃ v0 v1 v2 v3 v4 v5 v6 v7 v8 v9 v10 v11 v12 v13 vb l, siT la dy mi e1 n1 fe fn fu ho ha ne lo hi st up xs0 1 = (v0, v1, v2, v3, v4, v5, v6, v7, v8, v9, v10, v11, v12, v13, vb, l) := ⟨_, _, _, _, _, _, _, _, _, _, _, _, _, _, _, _, rfl⟩
  have hle9 : l.length ≤ xs0.length := siT_len hr9
  have HV := Lib.hid hr9
  clear hr9
  have hP00 := blk_new w (.cells #[.int .i64 la, .int .i64 dy, .int .i64 mi, .slice A0 xs0.length cap0, .int .i64 e1, .int .i64 n1, .int .i64 fe, .int .i64 fn, .int .i64 fu, .int .i64 ho, .int .i64 ha, .int .i64 ne, .int .i64 lo, .int .i64 hi, .bool up, .int .i64 st] 32 (0, 0))
  have hW0 := w0
  clear q0
  have l0' := l0
  unfold maxLen at l0'
  go_enter Tryz.func3, Tryz.ntmps3
  go_wp2_with (first | (refine wpList_load_row rfl 32 _ rfl _ rfl _ _ (0, 0) _ (by assumption) Tryz.underlying32 rfl (by kernel_rfl) ?_) | (refine wpList_load_row rfl 40 _ rfl _ rfl _ _ (0, 0) _ (by assumption) Tryz.underlying40 rfl (by kernel_rfl) ?_) | (refine wpList_load_rowG (by kernel_rfl) 40 _ rfl _ rfl _ _ (0, 0) _ (by assumption) Tryz.underlying40 rfl (by kernel_rfl) ?_))
  refine (szSite_any la dy mi e1 n1 fe fn fu ho ha ne lo hi st up A0 _ cap0 1048576 _ (by omega) (by omega) l0).mono ?_; rintro e' w1 ⟨r, rfl, hL, hw1⟩
  obtain ⟨hP1, hB1⟩ := ownb hw1
  rcases hL with rfl | ⟨r0, r1, hq⟩
  · go_wp2
    go_ret
    exact ⟨rfl, hB1⟩
  · have hr : ¬ r < 0 := by omega
    have hn : xs0.length ≤ 1048576 := by omega
    clear hq
    have hB0 := hB1
    have hP0 := hP1
    have hA_0 := hW0.next hB1
    have hlen : l.length ≤ 1048576 := by omega
    obtain ⟨m, hm⟩ : ∃ m, l.length = m := ⟨_, rfl⟩
    rw [hm] at hlen hle9
    have HM := Lib.hid hm
    clear hm
    go_wp2_with (first | (refine wpList_load_row rfl 32 _ rfl _ rfl _ _ (0, 0) _ (by assumption) Tryz.underlying32 rfl (by kernel_rfl) ?_) | (refine wpList_load_row rfl 40 _ rfl _ rfl _ _ (0, 0) _ (by assumption) Tryz.underlying40 rfl (by kernel_rfl) ?_) | (refine wpList_load_rowG (by kernel_rfl) 40 _ rfl _ rfl _ _ (0, 0) _ (by assumption) Tryz.underlying40 rfl (by kernel_rfl) ?_))
    refine (toSite_any la dy mi e1 n1 fe fn fu ho ha ne lo hi st up A0 cap0 xs0 _ hA_0 (by omega)).mono ?_; rintro e' w1 ⟨gC, rfl, hgC, hC1, hw1⟩
    have hP1 := blk_next hP0 hw1
    have hA_1 := hA_0.next hw1
    have hB1 := bel_next hB0 hw1
    have hz1 := hw1.size
    have zB1 := hB1.size
    go_wp2_with (first | (refine wpList_load_row rfl 32 _ rfl _ rfl _ _ (0, 0) _ (by assumption) Tryz.underlying32 rfl (by kernel_rfl) ?_) | (refine wpList_load_row rfl 40 _ rfl _ rfl _ _ (0, 0) _ (by assumption) Tryz.underlying40 rfl (by kernel_rfl) ?_) | (refine wpList_load_rowG (by kernel_rfl) 40 _ rfl _ rfl _ _ (0, 0) _ (by assumption) Tryz.underlying40 rfl (by kernel_rfl) ?_))
    refine (sST_is la dy mi e1 n1 fe fn fu ho ha ne lo hi st up _ _ xs0 _ rfl hC1.row (by omega) HV.out).mono ?_; rintro e' w2 ⟨As, cs, rfl, hS2, hw2⟩
    have hP2 := blk_next hP1 hw2
    have hA_2 := hA_1.next hw2
    have hC2 := hC1.next hw2
    have hB2 := bel_next hB1 hw2
    have hS2 := hS2.mono hB1.size
    rw [HM.out]
    have hz2 := hw2.size
    have hSlt : ∀ g, As = some ⟨g, 0, none⟩ → g < w2.heap.size := fun g hg => by rcases hS2.form with ⟨e, _⟩ | ⟨g1, e, _, h⟩; rw [e] at hg; cases hg; rw [e] at hg; cases hg; exact h
    obtain ⟨zY, hzY⟩ : ∃ z, w2.heap.size = z := ⟨_, rfl⟩
    have hY3 := blk_new w2 (.cells #[.int .i64 v0, .int .i64 v1, .int .i64 v2, .slice As m cs, .int .i64 v3, .int .i64 v4, .int .i64 v5, .int .i64 v6, .int .i64 v7, .int .i64 v8, .int .i64 v9, .int .i64 v10, .int .i64 v11, .int .i64 v12, .bool vb, .int .i64 v13] 40 (0, 0))
    have hP3 := blk_old hP2 (.cells #[.int .i64 v0, .int .i64 v1, .int .i64 v2, .slice As m cs, .int .i64 v3, .int .i64 v4, .int .i64 v5, .int .i64 v6, .int .i64 v7, .int .i64 v8, .int .i64 v9, .int .i64 v10, .int .i64 v11, .int .i64 v12, .bool vb, .int .i64 v13] 40 (0, 0))
    have hB3 := hB2.alloc hB2.size (.cells #[.int .i64 v0, .int .i64 v1, .int .i64 v2, .slice As m cs, .int .i64 v3, .int .i64 v4, .int .i64 v5, .int .i64 v6, .int .i64 v7, .int .i64 v8, .int .i64 v9, .int .i64 v10, .int .i64 v11, .int .i64 v12, .bool vb, .int .i64 v13] 40 (0, 0))
    have hA_3 := hA_2.next (bel1 _ (.cells #[.int .i64 v0, .int .i64 v1, .int .i64 v2, .slice As m cs, .int .i64 v3, .int .i64 v4, .int .i64 v5, .int .i64 v6, .int .i64 v7, .int .i64 v8, .int .i64 v9, .int .i64 v10, .int .i64 v11, .int .i64 v12, .bool vb, .int .i64 v13] 40 (0, 0)))
    have hS3 := hS2.next (bel1 _ (.cells #[.int .i64 v0, .int .i64 v1, .int .i64 v2, .slice As m cs, .int .i64 v3, .int .i64 v4, .int .i64 v5, .int .i64 v6, .int .i64 v7, .int .i64 v8, .int .i64 v9, .int .i64 v10, .int .i64 v11, .int .i64 v12, .bool vb, .int .i64 v13] 40 (0, 0)))
    rw [hzY] at hY3
    have HZY := Lib.hid hzY
    have hYs : w2.heap.size = zY := HZY.out
    go_wp2_with (first | (refine wpList_load_row rfl 32 _ rfl _ rfl _ _ (0, 0) _ (by assumption) Tryz.underlying32 rfl (by kernel_rfl) ?_) | (refine wpList_load_row rfl 40 _ rfl _ rfl _ _ (0, 0) _ (by assumption) Tryz.underlying40 rfl (by kernel_rfl) ?_) | (refine wpList_load_rowG (by kernel_rfl) 40 _ rfl _ rfl _ _ (0, 0) _ (by assumption) Tryz.underlying40 rfl (by kernel_rfl) ?_))
    refine (toSite_any la dy mi e1 n1 fe fn fu ho ha ne lo hi st up A0 cap0 xs0 _ hA_3 (by omega)).mono ?_; rintro e' w4 ⟨gD, rfl, hgD, hD4, hw4⟩
    have hP4 := blk_next hP3 hw4
    have hY4 := blk_next hY3 hw4
    have hA_4 := hA_3.next hw4
    have hS4 := hS3.next hw4
    have hB4 := bel_next hB3 hw4
    have hz4 := hw4.size
    have hgY : zY < gD := by have := blk_lt hY3; omega
    obtain ⟨zX, hzX⟩ : ∃ z, w4.heap.size = z := ⟨_, rfl⟩
    have hXl : w.heap.size < zX := by have := blk_lt hP4; omega
    have hDl := hD4.lt
    have hX5 := blk_new w4 (.cells #[.int .i64 la, .int .i64 dy, .int .i64 mi, .slice (some ⟨gD, 0, none⟩) xs0.length xs0.length, .int .i64 e1, .int .i64 n1, .int .i64 fe, .int .i64 fn, .int .i64 fu, .int .i64 ho, .int .i64 ha, .int .i64 ne, .int .i64 lo, .int .i64 hi, .bool up, .int .i64 st] 40 (0, 0))
    have hP5 := blk_old hP4 (.cells #[.int .i64 la, .int .i64 dy, .int .i64 mi, .slice (some ⟨gD, 0, none⟩) xs0.length xs0.length, .int .i64 e1, .int .i64 n1, .int .i64 fe, .int .i64 fn, .int .i64 fu, .int .i64 ho, .int .i64 ha, .int .i64 ne, .int .i64 lo, .int .i64 hi, .bool up, .int .i64 st] 40 (0, 0))
    have hY5 := blk_old hY4 (.cells #[.int .i64 la, .int .i64 dy, .int .i64 mi, .slice (some ⟨gD, 0, none⟩) xs0.length xs0.length, .int .i64 e1, .int .i64 n1, .int .i64 fe, .int .i64 fn, .int .i64 fu, .int .i64 ho, .int .i64 ha, .int .i64 ne, .int .i64 lo, .int .i64 hi, .bool up, .int .i64 st] 40 (0, 0))
    have hB5 := hB4.alloc hB4.size (.cells #[.int .i64 la, .int .i64 dy, .int .i64 mi, .slice (some ⟨gD, 0, none⟩) xs0.length xs0.length, .int .i64 e1, .int .i64 n1, .int .i64 fe, .int .i64 fn, .int .i64 fu, .int .i64 ho, .int .i64 ha, .int .i64 ne, .int .i64 lo, .int .i64 hi, .bool up, .int .i64 st] 40 (0, 0))
    have hA_5 := hA_4.next (bel1 _ (.cells #[.int .i64 la, .int .i64 dy, .int .i64 mi, .slice (some ⟨gD, 0, none⟩) xs0.length xs0.length, .int .i64 e1, .int .i64 n1, .int .i64 fe, .int .i64 fn, .int .i64 fu, .int .i64 ho, .int .i64 ha, .int .i64 ne, .int .i64 lo, .int .i64 hi, .bool up, .int .i64 st] 40 (0, 0)))
    have hS5 := hS4.next (bel1 _ (.cells #[.int .i64 la, .int .i64 dy, .int .i64 mi, .slice (some ⟨gD, 0, none⟩) xs0.length xs0.length, .int .i64 e1, .int .i64 n1, .int .i64 fe, .int .i64 fn, .int .i64 fu, .int .i64 ho, .int .i64 ha, .int .i64 ne, .int .i64 lo, .int .i64 hi, .bool up, .int .i64 st] 40 (0, 0)))
    have hD5 := hD4.next (bel1 _ (.cells #[.int .i64 la, .int .i64 dy, .int .i64 mi, .slice (some ⟨gD, 0, none⟩) xs0.length xs0.length, .int .i64 e1, .int .i64 n1, .int .i64 fe, .int .i64 fn, .int .i64 fu, .int .i64 ho, .int .i64 ha, .int .i64 ne, .int .i64 lo, .int .i64 hi, .bool up, .int .i64 st] 40 (0, 0)))
    rw [hzX] at hX5
    have HZX := Lib.hid hzX
    obtain ⟨nb, hnb⟩ : ∃ nb, (w4.alloc (.cells #[.int .i64 la, .int .i64 dy, .int .i64 mi, .slice (some ⟨gD, 0, none⟩) xs0.length xs0.length, .int .i64 e1, .int .i64 n1, .int .i64 fe, .int .i64 fn, .int .i64 fu, .int .i64 ho, .int .i64 ha, .int .i64 ne, .int .i64 lo, .int .i64 hi, .bool up, .int .i64 st] 40 (0, 0))).heap.size = nb := ⟨_, rfl⟩
    have hnz : zX < nb := by rw [← hnb]; exact blk_lt hX5
    have hgDw : gD < zX := by have := HZX.out; omega
    have HNB := Lib.hid hnb
    clear hnb
    go_wp2_with (first | (refine wpList_load_row rfl 32 _ rfl _ rfl _ _ (0, 0) _ (by assumption) Tryz.underlying32 rfl (by kernel_rfl) ?_) | (refine wpList_load_row rfl 40 _ rfl _ rfl _ _ (0, 0) _ (by assumption) Tryz.underlying40 rfl (by kernel_rfl) ?_) | (refine wpList_load_rowG (by kernel_rfl) 40 _ rfl _ rfl _ _ (0, 0) _ (by assumption) Tryz.underlying40 rfl (by kernel_rfl) ?_))
    refine (iST_is la dy mi e1 n1 fe fn fu ho ha ne lo hi st up _ _ xs0 _ rfl hD5.row (by omega) HV.out).mono ?_; rintro e' w6 ⟨Ai, ci, rfl, hI6, hw6⟩
    have hP6 := blk_next hP5 hw6
    have hY6 := blk_next hY5 hw6
    have hX6 := blk_next hX5 hw6
    have hA_6 := hA_5.next hw6
    have hS6 := hS5.next hw6
    have hD6 := hD5.next hw6
    have hB6 := bel_next hB5 hw6
    rw [HM.out]
    have hz6 := hw6.size
    have hIge : ∀ g, Ai = some ⟨g, 0, none⟩ → nb ≤ g := fun g hg => by rcases hI6.form with ⟨e, _⟩ | ⟨g1, e, h, _⟩; rw [e] at hg; cases hg; rw [e] at hg; cases hg; rw [HNB.out] at h; exact h
    have hI6 := hI6.mono (base' := w.heap.size) (by rw [HNB.out]; omega)
    obtain ⟨zG, hzG⟩ : ∃ z, w6.heap.size = z := ⟨_, rfl⟩
    have hG7 := blk_new w6 (.cells #[.int .i64 v0, .int .i64 v1, .int .i64 v2, .slice Ai m ci, .int .i64 v3, .int .i64 v4, .int .i64 v5, .int .i64 v6, .int .i64 v7, .int .i64 v8, .int .i64 v9, .int .i64 v10, .int .i64 v11, .int .i64 v12, .bool vb, .int .i64 v13] 40 (0, 0))
    have hP7 := blk_old hP6 (.cells #[.int .i64 v0, .int .i64 v1, .int .i64 v2, .slice Ai m ci, .int .i64 v3, .int .i64 v4, .int .i64 v5, .int .i64 v6, .int .i64 v7, .int .i64 v8, .int .i64 v9, .int .i64 v10, .int .i64 v11, .int .i64 v12, .bool vb, .int .i64 v13] 40 (0, 0))
    have hY7 := blk_old hY6 (.cells #[.int .i64 v0, .int .i64 v1, .int .i64 v2, .slice Ai m ci, .int .i64 v3, .int .i64 v4, .int .i64 v5, .int .i64 v6, .int .i64 v7, .int .i64 v8, .int .i64 v9, .int .i64 v10, .int .i64 v11, .int .i64 v12, .bool vb, .int .i64 v13] 40 (0, 0))
    have hX7 := blk_old hX6 (.cells #[.int .i64 v0, .int .i64 v1, .int .i64 v2, .slice Ai m ci, .int .i64 v3, .int .i64 v4, .int .i64 v5, .int .i64 v6, .int .i64 v7, .int .i64 v8, .int .i64 v9, .int .i64 v10, .int .i64 v11, .int .i64 v12, .bool vb, .int .i64 v13] 40 (0, 0))
    have hB7 := hB6.alloc hB6.size (.cells #[.int .i64 v0, .int .i64 v1, .int .i64 v2, .slice Ai m ci, .int .i64 v3, .int .i64 v4, .int .i64 v5, .int .i64 v6, .int .i64 v7, .int .i64 v8, .int .i64 v9, .int .i64 v10, .int .i64 v11, .int .i64 v12, .bool vb, .int .i64 v13] 40 (0, 0))
    have hA_7 := hA_6.next (bel1 _ (.cells #[.int .i64 v0, .int .i64 v1, .int .i64 v2, .slice Ai m ci, .int .i64 v3, .int .i64 v4, .int .i64 v5, .int .i64 v6, .int .i64 v7, .int .i64 v8, .int .i64 v9, .int .i64 v10, .int .i64 v11, .int .i64 v12, .bool vb, .int .i64 v13] 40 (0, 0)))
    have hS7 := hS6.next (bel1 _ (.cells #[.int .i64 v0, .int .i64 v1, .int .i64 v2, .slice Ai m ci, .int .i64 v3, .int .i64 v4, .int .i64 v5, .int .i64 v6, .int .i64 v7, .int .i64 v8, .int .i64 v9, .int .i64 v10, .int .i64 v11, .int .i64 v12, .bool vb, .int .i64 v13] 40 (0, 0)))
    have hD7 := hD6.next (bel1 _ (.cells #[.int .i64 v0, .int .i64 v1, .int .i64 v2, .slice Ai m ci, .int .i64 v3, .int .i64 v4, .int .i64 v5, .int .i64 v6, .int .i64 v7, .int .i64 v8, .int .i64 v9, .int .i64 v10, .int .i64 v11, .int .i64 v12, .bool vb, .int .i64 v13] 40 (0, 0)))
    have hI7 := hI6.next (bel1 _ (.cells #[.int .i64 v0, .int .i64 v1, .int .i64 v2, .slice Ai m ci, .int .i64 v3, .int .i64 v4, .int .i64 v5, .int .i64 v6, .int .i64 v7, .int .i64 v8, .int .i64 v9, .int .i64 v10, .int .i64 v11, .int .i64 v12, .bool vb, .int .i64 v13] 40 (0, 0)))
    rw [hzG] at hG7
    have HZG := Lib.hid hzG
    go_wp2_with (first | (refine wpList_load_row rfl 32 _ rfl _ rfl _ _ (0, 0) _ (by assumption) Tryz.underlying32 rfl (by kernel_rfl) ?_) | (refine wpList_load_row rfl 40 _ rfl _ rfl _ _ (0, 0) _ (by assumption) Tryz.underlying40 rfl (by kernel_rfl) ?_) | (refine wpList_load_rowG (by kernel_rfl) 40 _ rfl _ rfl _ _ (0, 0) _ (by assumption) Tryz.underlying40 rfl (by kernel_rfl) ?_))
    refine (eqSite_same v0 v1 v2 v3 v4 v5 v6 v7 v8 v9 v10 v11 v12 v13 vb _ _ _ _ l HM.out hI7.row hS7.row (by omega)).mono ?_; rintro e' w8 ⟨rfl, hw8⟩
    have hP8 := blk_next hP7 hw8
    have hY8 := blk_next hY7 hw8
    have hX8 := blk_next hX7 hw8
    have hG8 := blk_next hG7 hw8
    have hA_8 := hA_7.next hw8
    have hS8 := hS7.next hw8
    have hD8 := hD7.next hw8
    have hI8 := hI7.next hw8
    have hB8 := bel_next hB7 hw8
    go_wp2_with (first | (refine wpList_load_row rfl 32 _ rfl _ rfl _ _ (0, 0) _ (by assumption) Tryz.underlying32 rfl (by kernel_rfl) ?_) | (refine wpList_load_row rfl 40 _ rfl _ rfl _ _ (0, 0) _ (by assumption) Tryz.underlying40 rfl (by kernel_rfl) ?_) | (refine wpList_load_rowG (by kernel_rfl) 40 _ rfl _ rfl _ _ (0, 0) _ (by assumption) Tryz.underlying40 rfl (by kernel_rfl) ?_))
    refine wp_region_held_drew (S := (fun w' => w'.heap[w.heap.size]? = some (.cells #[.int .i64 la, .int .i64 dy, .int .i64 mi, .slice A0 xs0.length cap0, .int .i64 e1, .int .i64 n1, .int .i64 fe, .int .i64 fn, .int .i64 fu, .int .i64 ho, .int .i64 ha, .int .i64 ne, .int .i64 lo, .int .i64 hi, .bool up, .int .i64 st] 32 (0, 0)) ∧ w'.heap[zX]? = some (.cells #[.int .i64 la, .int .i64 dy, .int .i64 mi, .slice (some ⟨gD, 0, none⟩) xs0.length xs0.length, .int .i64 e1, .int .i64 n1, .int .i64 fe, .int .i64 fn, .int .i64 fu, .int .i64 ho, .int .i64 ha, .int .i64 ne, .int .i64 lo, .int .i64 hi, .bool up, .int .i64 st] 40 (0, 0)) ∧ w'.heap[zY]? = some (.cells #[.int .i64 v0, .int .i64 v1, .int .i64 v2, .slice As m cs, .int .i64 v3, .int .i64 v4, .int .i64 v5, .int .i64 v6, .int .i64 v7, .int .i64 v8, .int .i64 v9, .int .i64 v10, .int .i64 v11, .int .i64 v12, .bool vb, .int .i64 v13] 40 (0, 0)) ∧ w'.heap[zG]? = some (.cells #[.int .i64 v0, .int .i64 v1, .int .i64 v2, .slice Ai m ci, .int .i64 v3, .int .i64 v4, .int .i64 v5, .int .i64 v6, .int .i64 v7, .int .i64 v8, .int .i64 v9, .int .i64 v10, .int .i64 v11, .int .i64 v12, .bool vb, .int .i64 v13] 40 (0, 0)) ∧ SRow encBlock w' A0 xs0 ∧ SBlk encBlock w' gD 58 xs0 ∧ SOwn encBlock w' w.heap.size 58 As cs l ∧ SOwn encBlock w' w.heap.size 58 Ai ci l ∧ Below w.heap.size w w')) (by kernel_rfl) ⟨hP8, hX8, hY8, hG8, hA_8, hD8, hS8.drew, hI8.drew, hB8.drew⟩ (fun hHeld => ?_)
    obtain ⟨hP_0, hX_0, hY_0, hG_0, hA_0, hD_0, hS_0, hI_0, hB_0⟩ := id hHeld
    refine wpAnyH_take (i := 0) (oi := _) (v := ?_) rfl (by kernel_rfl) (by kernel_rfl) (by kernel_rfl) (fun _ _ _ h => h) (Or.inl ⟨by rfl, ?_⟩) (by assumption) ?_
    (rotate_left); (focus (intro wv hSw; (obtain ⟨qP, qX, qY, qG, qA, qD, qS, qI, qB⟩ := hSw); refine run_load_row9 40 ?x9X ?h9X _ ?e9X _ _ (0, 0) _ qX Tryz.underlying40 rfl (by kernel_rfl); (case h9X => rfl); (case e9X => rfl)))
    try simp only [Act.put, List.getElem_toArray, List.getElem_cons_succ, List.getElem_cons_zero, List.setIfInBounds_toArray, List.set_cons_zero, List.set_cons_succ]
    refine wpAnyH_take (i := 1) (oi := _) (v := ?_) rfl (by kernel_rfl) (by kernel_rfl) (by kernel_rfl) (fun _ _ _ h => h) (Or.inl ⟨by rfl, ?_⟩) (by assumption) ?_
    (rotate_left); (focus (intro wv hSw; (obtain ⟨qP, qX, qY, qG, qA, qD, qS, qI, qB⟩ := hSw); refine run_load_row9 32 ?x9P ?h9P _ ?e9P _ _ (0, 0) _ qP Tryz.underlying32 rfl (by kernel_rfl); (case h9P => rfl); (case e9P => rfl)))
    try simp only [Act.put, List.getElem_toArray, List.getElem_cons_succ, List.getElem_cons_zero, List.setIfInBounds_toArray, List.set_cons_zero, List.set_cons_succ]
    refine wpAnyH_ready (rs := [2]) (by kernel_rfl) (by simp) ?_
    refine AllReadyH.cons (o := _) rfl (fun K hK => ?_) AllReadyH.nil
    go_simp
    (go_at_call 10; refine (toSite_any la dy mi e1 n1 fe fn fu ho ha ne lo hi st up A0 cap0 xs0 _ hA_0 (by omega)).mono ?_; rintro e x0c ⟨gE, rfl, hgE, hE_0c, hw_0c⟩)
    refine hK.out _ _ ⟨blk_next hP_0 hw_0c, blk_next hX_0 hw_0c, blk_next hY_0 hw_0c, blk_next hG_0 hw_0c, hA_0.next hw_0c, hD_0.next hw_0c, hS_0.next hw_0c, hI_0.next hw_0c, bel_next hB_0 hw_0c⟩ (fun hHeld => ?_)
    clear hK K
    try simp only [Act.put, List.getElem_toArray, List.getElem_cons_succ, List.getElem_cons_zero, List.setIfInBounds_toArray, List.set_cons_zero, List.set_cons_succ]
    obtain ⟨hP_0c, hX_0c, hY_0c, hG_0c, hA_0c, hD_0c, hS_0c, hI_0c, hB_0c⟩ := id hHeld
    refine wpAnyH_ready (rs := [3]) (by kernel_rfl) (by simp) ?_
    refine AllReadyH.cons (o := _) rfl (fun K hK => ?_) AllReadyH.nil
    go_simp
    (go_at_call 12; refine (eqSite_same la dy mi e1 n1 fe fn fu ho ha ne lo hi st up _ _ _ _ xs0 rfl hD_0c.row hE_0c.row (by omega)).mono ?_; rintro e x0cc ⟨rfl, hw_0cc⟩)
    refine hK.out _ _ ⟨blk_next hP_0c hw_0cc, blk_next hX_0c hw_0cc, blk_next hY_0c hw_0cc, blk_next hG_0c hw_0cc, hA_0c.next hw_0cc, hD_0c.next hw_0cc, hS_0c.next hw_0cc, hI_0c.next hw_0cc, bel_next hB_0c hw_0cc⟩ (fun hHeld => ?_)
    clear hK K
    try simp only [Act.put, List.getElem_toArray, List.getElem_cons_succ, List.getElem_cons_zero, List.setIfInBounds_toArray, List.set_cons_zero, List.set_cons_succ]
    obtain ⟨hP_0cc, hX_0cc, hY_0cc, hG_0cc, hA_0cc, hD_0cc, hS_0cc, hI_0cc, hB_0cc⟩ := id hHeld
    refine wpAnyH_take (i := 4) (oi := _) (v := ?_) rfl (by kernel_rfl) (by kernel_rfl) (by kernel_rfl) (fun _ _ _ h => h) (Or.inl ⟨by rfl, ?_⟩) (by assumption) ?_
    (rotate_left); (focus (intro wv hSw; (obtain ⟨qP, qX, qY, qG, qA, qD, qS, qI, qB⟩ := hSw);  go_simp; (try with_reducible rfl)))
    try simp only [Act.put, List.getElem_toArray, List.getElem_cons_succ, List.getElem_cons_zero, List.setIfInBounds_toArray, List.set_cons_zero, List.set_cons_succ]
    refine wpAnyH_done (by kernel_rfl) ?_ _
    have hP9 := hP_0cc
    have hX9 := hX_0cc
    have hY9 := hY_0cc
    have hG9 := hG_0cc
    have hA_9 := hA_0cc
    have hD9 := hD_0cc
    have hS9 := hS_0cc
    have hI9 := hI_0cc
    have hB9 := hB_0cc
    clear hP_0cc hX_0cc hY_0cc hG_0cc hA_0cc hD_0cc hS_0cc hI_0cc hB_0cc
    have hDo := SOwn.of_blk (base := w.heap.size) hD9 (by omega) rfl l0
    go_wp2_with (first | (refine wpList_load_row rfl 32 _ rfl _ rfl _ _ (0, 0) _ (by assumption) Tryz.underlying32 rfl (by kernel_rfl) ?_) | (refine wpList_load_row rfl 40 _ rfl _ rfl _ _ (0, 0) _ (by assumption) Tryz.underlying40 rfl (by kernel_rfl) ?_) | (refine wpList_load_rowG (by kernel_rfl) 40 _ rfl _ rfl _ _ (0, 0) _ (by assumption) Tryz.underlying40 rfl (by kernel_rfl) ?_))
    refine (markSite_any la dy mi e1 n1 fe fn fu ho ha ne lo hi st up w.heap.size _ _ xs0 1 rfl hB9.size hDo (by omega) (by omega) (by omega)).mono ?_; rintro e' wM ⟨rfl, hDM, hGr⟩
    have hB10 : Below w.heap.size w wM := hB9.grown hGr hB9.size (fun j hj => by simp [Value.ownBlock] at hj; omega)
    have hI10 := hI9.grown_far hGr (fun g hg e => by have := hIge g hg; simp [Value.ownBlock] at e; omega)
    have hS10 := hS9.grown_far hGr (fun g hg e => by have := hSlt g hg; simp [Value.ownBlock] at e; omega)
    have hP10 := blk_grownE hP9 hGr (SOwn.ne_typeE hDo hP9 (by decide))
    have hY10 := blk_grownE hY9 hGr (SOwn.ne_typeE hDo hY9 (by decide))
    have hG10 := blk_grownE hG9 hGr (SOwn.ne_typeE hDo hG9 (by decide))
    have hA_10 := hW0.next hB10
    have hk0 : ¬ (1 + 5 * (xs0.length : Int)) < 0 := by omega
    clear hGr hDM hDo
    go_wp2_with (first | (refine wpList_load_row rfl 32 _ rfl _ rfl _ _ (0, 0) _ (by assumption) Tryz.underlying32 rfl (by kernel_rfl) ?_) | (refine wpList_load_row rfl 40 _ rfl _ rfl _ _ (0, 0) _ (by assumption) Tryz.underlying40 rfl (by kernel_rfl) ?_) | (refine wpList_load_rowG (by kernel_rfl) 40 _ rfl _ rfl _ _ (0, 0) _ (by assumption) Tryz.underlying40 rfl (by kernel_rfl) ?_))
    refine (eqSite_same v0 v1 v2 v3 v4 v5 v6 v7 v8 v9 v10 v11 v12 v13 vb _ _ _ _ l HM.out hI10.row hS10.row (by omega)).mono ?_; rintro e' w11 ⟨rfl, hw11⟩
    have hP11 := blk_next hP10 hw11
    have hY11 := blk_next hY10 hw11
    have hG11 := blk_next hG10 hw11
    have hA_11 := hA_10.next hw11
    have hS11 := hS10.next hw11
    have hI11 := hI10.next hw11
    have hB11 := bel_next hB10 hw11
    go_wp2_with (first | (refine wpList_load_row rfl 32 _ rfl _ rfl _ _ (0, 0) _ (by assumption) Tryz.underlying32 rfl (by kernel_rfl) ?_) | (refine wpList_load_row rfl 40 _ rfl _ rfl _ _ (0, 0) _ (by assumption) Tryz.underlying40 rfl (by kernel_rfl) ?_) | (refine wpList_load_rowG (by kernel_rfl) 40 _ rfl _ rfl _ _ (0, 0) _ (by assumption) Tryz.underlying40 rfl (by kernel_rfl) ?_))
    refine (markSite_any v0 v1 v2 v3 v4 v5 v6 v7 v8 v9 v10 v11 v12 v13 vb w.heap.size _ _ l 1 HM.out hB11.size hI11 (by omega) (by omega) (by omega)).mono ?_; rintro e' wN ⟨rfl, hIN, hGr⟩
    have hB12 : Below w.heap.size w wN := SOwn.below_grown hI11 hB11 hGr
    have hS12 := hS11.grown_far hGr (fun g hg e => by have := hSlt g hg; rcases hI11.form with ⟨e2, _⟩ | ⟨g1, e2, h, _⟩; rw [e2] at e; simp [Value.ownBlock] at e; rw [e2] at e; simp [Value.ownBlock] at e; have := hIge g1 e2; omega)
    have hP12 := blk_grownE hP11 hGr (SOwn.ne_typeE hI11 hP11 (by decide))
    have hY12 := blk_grownE hY11 hGr (SOwn.ne_typeE hI11 hY11 (by decide))
    have hG12 := blk_grownE hG11 hGr (SOwn.ne_typeE hI11 hG11 (by decide))
    clear hGr
    have hI12 := hIN
    have hA_12 := hW0.next hB12
    go_wp2_with (first | (refine wpList_load_row rfl 32 _ rfl _ rfl _ _ (0, 0) _ (by assumption) Tryz.underlying32 rfl (by kernel_rfl) ?_) | (refine wpList_load_row rfl 40 _ rfl _ rfl _ _ (0, 0) _ (by assumption) Tryz.underlying40 rfl (by kernel_rfl) ?_) | (refine wpList_load_rowG (by kernel_rfl) 40 _ rfl _ rfl _ _ (0, 0) _ (by assumption) Tryz.underlying40 rfl (by kernel_rfl) ?_))
    refine (heldSite_any v0 v1 v2 v3 v4 v5 v6 v7 v8 v9 v10 v11 v12 v13 vb Ai ci 1 (m := m) hI12.row (by omega) (by omega) (by omega)).mono ?_; rintro e' w13 ⟨rfl, hw13⟩
    have hP13 := blk_next hP12 hw13
    have hY13 := blk_next hY12 hw13
    have hG13 := blk_next hG12 hw13
    have hA_13 := hA_12.next hw13
    have hS13 := hS12.next hw13
    have hI13 := hI12.next hw13
    have hB13 := bel_next hB12 hw13
    have hk1 : ¬ (1 + 5 * (m : Int)) < 0 := by omega
    go_wp2_with (first | (refine wpList_load_row rfl 32 _ rfl _ rfl _ _ (0, 0) _ (by assumption) Tryz.underlying32 rfl (by kernel_rfl) ?_) | (refine wpList_load_row rfl 40 _ rfl _ rfl _ _ (0, 0) _ (by assumption) Tryz.underlying40 rfl (by kernel_rfl) ?_) | (refine wpList_load_rowG (by kernel_rfl) 40 _ rfl _ rfl _ _ (0, 0) _ (by assumption) Tryz.underlying40 rfl (by kernel_rfl) ?_))
    refine (toSite_any la dy mi e1 n1 fe fn fu ho ha ne lo hi st up A0 cap0 xs0 _ hA_13 (by omega)).mono ?_; rintro e' w14 ⟨gF, rfl, hgF, hF14, hw14⟩
    have hP14 := blk_next hP13 hw14
    have hY14 := blk_next hY13 hw14
    have hG14 := blk_next hG13 hw14
    have hA_14 := hA_13.next hw14
    have hS14 := hS13.next hw14
    have hI14 := hI13.next hw14
    have hB14 := bel_next hB13 hw14
    go_wp2_with (first | (refine wpList_load_row rfl 32 _ rfl _ rfl _ _ (0, 0) _ (by assumption) Tryz.underlying32 rfl (by kernel_rfl) ?_) | (refine wpList_load_row rfl 40 _ rfl _ rfl _ _ (0, 0) _ (by assumption) Tryz.underlying40 rfl (by kernel_rfl) ?_) | (refine wpList_load_rowG (by kernel_rfl) 40 _ rfl _ rfl _ _ (0, 0) _ (by assumption) Tryz.underlying40 rfl (by kernel_rfl) ?_))
    refine (iST_is la dy mi e1 n1 fe fn fu ho ha ne lo hi st up _ _ xs0 _ rfl hF14.row (by omega) HV.out).mono ?_; rintro e' w15 ⟨Ah, ch, rfl, hHH15, hw15⟩
    have hP15 := blk_next hP14 hw15
    have hY15 := blk_next hY14 hw15
    have hG15 := blk_next hG14 hw15
    have hA_15 := hA_14.next hw15
    have hS15 := hS14.next hw15
    have hI15 := hI14.next hw15
    have hF15 := hF14.next hw15
    have hB15 := bel_next hB14 hw15
    rw [HM.out]
    obtain ⟨zK, hzK⟩ : ∃ z, w15.heap.size = z := ⟨_, rfl⟩
    have hK16 := blk_new w15 (.cells #[.int .i64 v0, .int .i64 v1, .int .i64 v2, .slice Ah m ch, .int .i64 v3, .int .i64 v4, .int .i64 v5, .int .i64 v6, .int .i64 v7, .int .i64 v8, .int .i64 v9, .int .i64 v10, .int .i64 v11, .int .i64 v12, .bool vb, .int .i64 v13] 40 (0, 0))
    have hP16 := blk_old hP15 (.cells #[.int .i64 v0, .int .i64 v1, .int .i64 v2, .slice Ah m ch, .int .i64 v3, .int .i64 v4, .int .i64 v5, .int .i64 v6, .int .i64 v7, .int .i64 v8, .int .i64 v9, .int .i64 v10, .int .i64 v11, .int .i64 v12, .bool vb, .int .i64 v13] 40 (0, 0))
    have hY16 := blk_old hY15 (.cells #[.int .i64 v0, .int .i64 v1, .int .i64 v2, .slice Ah m ch, .int .i64 v3, .int .i64 v4, .int .i64 v5, .int .i64 v6, .int .i64 v7, .int .i64 v8, .int .i64 v9, .int .i64 v10, .int .i64 v11, .int .i64 v12, .bool vb, .int .i64 v13] 40 (0, 0))
    have hG16 := blk_old hG15 (.cells #[.int .i64 v0, .int .i64 v1, .int .i64 v2, .slice Ah m ch, .int .i64 v3, .int .i64 v4, .int .i64 v5, .int .i64 v6, .int .i64 v7, .int .i64 v8, .int .i64 v9, .int .i64 v10, .int .i64 v11, .int .i64 v12, .bool vb, .int .i64 v13] 40 (0, 0))
    have hB16 := hB15.alloc hB15.size (.cells #[.int .i64 v0, .int .i64 v1, .int .i64 v2, .slice Ah m ch, .int .i64 v3, .int .i64 v4, .int .i64 v5, .int .i64 v6, .int .i64 v7, .int .i64 v8, .int .i64 v9, .int .i64 v10, .int .i64 v11, .int .i64 v12, .bool vb, .int .i64 v13] 40 (0, 0))
    have hA_16 := hA_15.next (bel1 _ (.cells #[.int .i64 v0, .int .i64 v1, .int .i64 v2, .slice Ah m ch, .int .i64 v3, .int .i64 v4, .int .i64 v5, .int .i64 v6, .int .i64 v7, .int .i64 v8, .int .i64 v9, .int .i64 v10, .int .i64 v11, .int .i64 v12, .bool vb, .int .i64 v13] 40 (0, 0)))
    have hS16 := hS15.next (bel1 _ (.cells #[.int .i64 v0, .int .i64 v1, .int .i64 v2, .slice Ah m ch, .int .i64 v3, .int .i64 v4, .int .i64 v5, .int .i64 v6, .int .i64 v7, .int .i64 v8, .int .i64 v9, .int .i64 v10, .int .i64 v11, .int .i64 v12, .bool vb, .int .i64 v13] 40 (0, 0)))
    have hI16 := hI15.next (bel1 _ (.cells #[.int .i64 v0, .int .i64 v1, .int .i64 v2, .slice Ah m ch, .int .i64 v3, .int .i64 v4, .int .i64 v5, .int .i64 v6, .int .i64 v7, .int .i64 v8, .int .i64 v9, .int .i64 v10, .int .i64 v11, .int .i64 v12, .bool vb, .int .i64 v13] 40 (0, 0)))
    have hF16 := hF15.next (bel1 _ (.cells #[.int .i64 v0, .int .i64 v1, .int .i64 v2, .slice Ah m ch, .int .i64 v3, .int .i64 v4, .int .i64 v5, .int .i64 v6, .int .i64 v7, .int .i64 v8, .int .i64 v9, .int .i64 v10, .int .i64 v11, .int .i64 v12, .bool vb, .int .i64 v13] 40 (0, 0)))
    have hHH16 := hHH15.next (bel1 _ (.cells #[.int .i64 v0, .int .i64 v1, .int .i64 v2, .slice Ah m ch, .int .i64 v3, .int .i64 v4, .int .i64 v5, .int .i64 v6, .int .i64 v7, .int .i64 v8, .int .i64 v9, .int .i64 v10, .int .i64 v11, .int .i64 v12, .bool vb, .int .i64 v13] 40 (0, 0)))
    rw [hzK] at hK16
    have HZK := Lib.hid hzK
    go_wp2_with (first | (refine wpList_load_row rfl 32 _ rfl _ rfl _ _ (0, 0) _ (by assumption) Tryz.underlying32 rfl (by kernel_rfl) ?_) | (refine wpList_load_row rfl 40 _ rfl _ rfl _ _ (0, 0) _ (by assumption) Tryz.underlying40 rfl (by kernel_rfl) ?_) | (refine wpList_load_rowG (by kernel_rfl) 40 _ rfl _ rfl _ _ (0, 0) _ (by assumption) Tryz.underlying40 rfl (by kernel_rfl) ?_))
    refine (eqSite_same v0 v1 v2 v3 v4 v5 v6 v7 v8 v9 v10 v11 v12 v13 vb _ _ _ _ l HM.out hHH16.row hS16.row (by omega)).mono ?_; rintro e' w17 ⟨rfl, hw17⟩
    have hP17 := blk_next hP16 hw17
    have hY17 := blk_next hY16 hw17
    have hG17 := blk_next hG16 hw17
    have hK17 := blk_next hK16 hw17
    have hA_17 := hA_16.next hw17
    have hS17 := hS16.next hw17
    have hI17 := hI16.next hw17
    have hF17 := hF16.next hw17
    have hHH17 := hHH16.next hw17
    have hB17 := bel_next hB16 hw17
    go_wp2_with (first | (refine wpList_load_row rfl 32 _ rfl _ rfl _ _ (0, 0) _ (by assumption) Tryz.underlying32 rfl (by kernel_rfl) ?_) | (refine wpList_load_row rfl 40 _ rfl _ rfl _ _ (0, 0) _ (by assumption) Tryz.underlying40 rfl (by kernel_rfl) ?_) | (refine wpList_load_rowG (by kernel_rfl) 40 _ rfl _ rfl _ _ (0, 0) _ (by assumption) Tryz.underlying40 rfl (by kernel_rfl) ?_))
    refine (heldSite_any v0 v1 v2 v3 v4 v5 v6 v7 v8 v9 v10 v11 v12 v13 vb Ai ci 1 (m := m) hI17.row (by omega) (by omega) (by omega)).mono ?_; rintro e' w18 ⟨rfl, hw18⟩
    have hP18 := blk_next hP17 hw18
    have hY18 := blk_next hY17 hw18
    have hG18 := blk_next hG17 hw18
    have hK18 := blk_next hK17 hw18
    have hA_18 := hA_17.next hw18
    have hS18 := hS17.next hw18
    have hI18 := hI17.next hw18
    have hF18 := hF17.next hw18
    have hHH18 := hHH17.next hw18
    have hB18 := bel_next hB17 hw18
    go_wp2_with (first | (refine wpList_load_row rfl 32 _ rfl _ rfl _ _ (0, 0) _ (by assumption) Tryz.underlying32 rfl (by kernel_rfl) ?_) | (refine wpList_load_row rfl 40 _ rfl _ rfl _ _ (0, 0) _ (by assumption) Tryz.underlying40 rfl (by kernel_rfl) ?_) | (refine wpList_load_rowG (by kernel_rfl) 40 _ rfl _ rfl _ _ (0, 0) _ (by assumption) Tryz.underlying40 rfl (by kernel_rfl) ?_))
    go_ret
    exact ⟨rfl, by first | exact hB18 | exact hB18.drew⟩
set_option maxRecDepth 100000 in
theorem lifted (os : Os) (started : os.Started) (H : Type) (enc : TypeId × Value → H) :
    ReturnsInHanded {} Tryz.checked os 3 .any (Rows.fnExactSiteTickSpec.pre6 enc Tryz.prog Tryz.f3 Rows.fnExactSiteTickRow.domain false) (Rows.fnExactSiteTickSpec.post enc Tryz.prog Tryz.f3 false true false false) := by
  refine returnsInHanded_of_change (C := Tryz.checked) own started (by kernel_rfl) Tryz.func3
    (ChangeSpec.witness6 (enc := enc) (C := Tryz.checked) false ⟨#[], #[.agg #[.int .i64 0, .int .i64 0, .int .i64 0, .slice none 0 0, .int .i64 0, .int .i64 0, .int .i64 0, .int .i64 0, .int .i64 0, .int .i64 0, .int .i64 0, .int .i64 0, .int .i64 0, .int .i64 0, .bool false, .int .i64 0]], []⟩ 8 (by kernel_rfl) (by kernel_rfl) (by kernel_rfl) (by kernel_rfl)) ?_
  intro W base args ds gs before hval0 hW hcnd _
  have hval : ∀ (j : Nat) t v, Tryz.f3.params[j]? = some t → args[j]? = some v → Value.okWide Tryz.prog W .any base t v := hval0
  have hW' := hW
  obtain ⟨p, q, hA0, hV, rfl, hfz, hnd⟩ := hW
  have hA : DataW.TrodAll enc Tryz.prog W 0 (fun _ => true) true Tryz.f3.params.toList args.toList ds p := hA0
  rw [Tryz.params3] at hA hval
  obtain ⟨v0, vs0, d0, ds0, p0, q0, hargs, rfl, rfl, h0, r0⟩ := trodAll_cons hA
  obtain ⟨rfl, rfl, rfl⟩ := trodAll_nil r0
  obtain rfl : args = #[v0] := by cases args; simp_all
  obtain ⟨rfl, rfl⟩ := trodVars_none hV
  have k0 := h0
  have lt0 : ∀ x ∈ p0, x.block < W.heap.size := by obtain ⟨m, hm⟩ := k0; exact DataW.trod_lt m _ _ _ hm
  obtain ⟨la, dy, mi, e1, n1, fe, fn, fu, ho, ha, ne, lo, hi, st, up, A0, cap0, xs0, rfl, w0, l0, q0⟩ := openSite (hval 0 32 v0 rfl rfl) h0
  clear hA0 hval0
  refine (walk W la dy mi e1 n1 fe fn fu ho ha ne lo hi st up A0 cap0 xs0 w0 l0 q0).mono fun e W' ⟨he, bel⟩ => ?_
  subst he
  exact ⟨_, rfl, _, _, _, [], _, [], hW', trodAll_mk1 (shut_bool Tryz.underlying4 _), (trodAll_cons_mk (Below.trod laidOut (by kernel_rfl) (of_decide_eq_true (by kernel_rfl)) k0 bel lt0) trodAll_mk0), rfl, bel.frame _, fun h => by cases h⟩
theorem over : Rows.fnExactSiteTickRow.holds Tryz.pinned (OpenSpec.ofChange Rows.fnExactSiteTickSpec) :=
  OpenClaim.holds_of_wide 3 Tryz.f3 rfl rfl rfl rfl rfl rfl rfl ⟨rfl, rfl, rfl, rfl, rfl⟩ rfl rfl rfl rfl rfl (by kernel_rfl) Tryz.func3 (by kernel_rfl)
    (of_decide_eq_true (by kernel_rfl)) (by unfold Func.isWrapper; first | (rw [if_pos (by decide +kernel)]; kernel_rfl) | (rw [if_neg (by decide +kernel)]; exact ⟨rfl, rfl⟩))
    (fun os started H enc _ => lifted os started H enc)
/-- The statement. -/
theorem proved : Rows.FnExactSiteTickSaid :=
  over
#print axioms proved
end Go.Proofs.YtigndpajpofofaaGreat.fnExactSiteTick
