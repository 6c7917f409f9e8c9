/- FnExactSiteLights: whatever the input, the law returns true, and its arguments read as they did. No conditions beyond those of the statement's row. -/
import Derived.Laws.Rows
import Derived.Test.YtigndpajpofofaaGreatLQR
import Derived.Test.YtigndpajpofofaaGreatLQH
namespace Go.Proofs.YtigndpajpofofaaGreat.fnExactSiteLights
open Go.Proofs.YtigndpajpofofaaGreat
open Go Go.RowKit
open Go.ChangeShapes Go.WideShapes Go.ChangeAt Go.RowKit Go.Joins
set_option linter.unusedVariables false
set_option linter.unusedSimpArgs false
set_option linter.unnecessarySimpa false
theorem own : ownKnob Tryz.prog.godebug = none := by kernel_rfl
theorem laidOut : laidOutB Tryz.prog = true := by kernel_rfl
set_option maxRecDepth 100000 in
set_option maxHeartbeats 4000000 in
theorem walk (w : World) (la dy mi e1 n1 fe fn fu ho ha ne lo hi st : Int) (up : Bool) (A0 : Option Addr) (cap0 : Nat) (xs0 : List VBlock) (w0 : SRow encBlock w A0 xs0) (l0 : xs0.length ≤ maxLen) (q0 : Wf la ∧ Wf dy ∧ Wf mi ∧ Wf e1 ∧ Wf n1 ∧ Wf fe ∧ Wf fn ∧ Wf fu ∧ Wf ho ∧ Wf ha ∧ Wf ne ∧ Wf lo ∧ Wf hi ∧ Wf st) (a1 : Int) (w1 : (Lit.int .i64 a1).wf = true) :
    Calls Tryz.prog 5 #[.agg #[.int .i64 la, .int .i64 dy, .int .i64 mi, .slice A0 xs0.length cap0, .int .i64 e1, .int .i64 n1, .int .i64 fe, .int .i64 fn, .int .i64 fu, .int .i64 ho, .int .i64 ha, .int .i64 ne, .int .i64 lo, .int .i64 hi, .bool up, .int .i64 st], .int .i64 a1] w fun e w' => e = .returned (.bool true) ∧ Below w.heap.size w w' := by
  obtain ⟨l, hl9⟩ : ∃ l, siL la dy mi e1 n1 fe fn fu ho ha ne lo hi st up xs0 a1 = l := ⟨_, rfl⟩
  have hle9 : l.length ≤ 96 := by rw [← hl9]; exact siL_len
  have HV := Lib.hid hl9
  clear hl9
  have hP00 := blk_new w (.cells #[.int .i64 la, .int .i64 dy, .int .i64 mi, .slice A0 xs0.length cap0, .int .i64 e1, .int .i64 n1, .int .i64 fe, .int .i64 fn, .int .i64 fu, .int .i64 ho, .int .i64 ha, .int .i64 ne, .int .i64 lo, .int .i64 hi, .bool up, .int .i64 st] 32 (0, 0))
  have hW0 := w0
  clear q0
  have l0' := l0
  unfold maxLen at l0'
  go_enter Tryz.func5, Tryz.ntmps5
  go_wp2_with (first | (refine wpList_load_row rfl 32 _ rfl _ rfl _ _ (0, 0) _ (by assumption) Tryz.underlying32 rfl (by kernel_rfl) ?_) | (refine wpList_load_row rfl 40 _ rfl _ rfl _ _ (0, 0) _ (by assumption) Tryz.underlying40 rfl (by kernel_rfl) ?_) | (refine wpList_load_rowG (by rfl) 40 _ rfl _ rfl _ _ (0, 0) _ (by assumption) Tryz.underlying40 rfl (by kernel_rfl) ?_))
  refine (szSite_any la dy mi e1 n1 fe fn fu ho ha ne lo hi st up A0 _ cap0 1048576 _ (by omega) (by omega) l0).mono ?_; rintro e' w1 ⟨r, rfl, hL, hw1⟩
  obtain ⟨hP1, hB1⟩ := ownb hw1
  rcases hL with rfl | ⟨r0, r1, hq⟩
  · go_wp2
    go_ret
    exact ⟨rfl, hB1⟩
  · have hr : ¬ r < 0 := by omega
    have hn : xs0.length ≤ 1048576 := by omega
    clear hq
    have hB0 := hB1
    have hP0 := hP1
    have hA_0 := hW0.next hB1
    have hlen : l.length ≤ 1048576 := by omega
    obtain ⟨m, hm⟩ : ∃ m, l.length = m := ⟨_, rfl⟩
    rw [hm] at hlen hle9
    have HM := Lib.hid hm
    clear hm
    go_wp2_with (first | (refine wpList_load_row rfl 32 _ rfl _ rfl _ _ (0, 0) _ (by assumption) Tryz.underlying32 rfl (by kernel_rfl) ?_) | (refine wpList_load_row rfl 40 _ rfl _ rfl _ _ (0, 0) _ (by assumption) Tryz.underlying40 rfl (by kernel_rfl) ?_) | (refine wpList_load_rowG (by rfl) 40 _ rfl _ rfl _ _ (0, 0) _ (by assumption) Tryz.underlying40 rfl (by kernel_rfl) ?_))
    refine (toSite_any la dy mi e1 n1 fe fn fu ho ha ne lo hi st up A0 cap0 xs0 _ hA_0 (by omega)).mono ?_; rintro e' w1 ⟨gC, rfl, hgC, hC1, hw1⟩
    have hP1 := blk_next hP0 hw1
    have hA_1 := hA_0.next hw1
    have hB1 := bel_next hB0 hw1
    have hz1 := hw1.size
    have zB1 := hB1.size
    go_wp2_with (first | (refine wpList_load_row rfl 32 _ rfl _ rfl _ _ (0, 0) _ (by assumption) Tryz.underlying32 rfl (by kernel_rfl) ?_) | (refine wpList_load_row rfl 40 _ rfl _ rfl _ _ (0, 0) _ (by assumption) Tryz.underlying40 rfl (by kernel_rfl) ?_) | (refine wpList_load_rowG (by rfl) 40 _ rfl _ rfl _ _ (0, 0) _ (by assumption) Tryz.underlying40 rfl (by kernel_rfl) ?_))
    refine (sSLs_is la dy mi e1 n1 fe fn fu ho ha ne lo hi st up _ _ xs0 _ rfl hC1.row (by omega) HV.out).mono ?_; rintro e' w2 ⟨As, cs, rfl, hS2, hw2⟩
    have hP2 := blk_next hP1 hw2
    have hA_2 := hA_1.next hw2
    have hC2 := hC1.next hw2
    have hB2 := bel_next hB1 hw2
    have hS2 := hS2.mono hB1.size
    rw [HM.out]
    have hz2 := hw2.size
    have hSlt : ∀ g, As = some ⟨g, 0, none⟩ → g < w2.heap.size := fun g hg => by rcases hS2.form with ⟨e, _⟩ | ⟨g1, e, _, h⟩; rw [e] at hg; cases hg; rw [e] at hg; cases hg; exact h
    have zPD := blk_lt hP2
    go_wp2_with (first | (refine wpList_load_row rfl 32 _ rfl _ rfl _ _ (0, 0) _ (by assumption) Tryz.underlying32 rfl (by kernel_rfl) ?_) | (refine wpList_load_row rfl 40 _ rfl _ rfl _ _ (0, 0) _ (by assumption) Tryz.underlying40 rfl (by kernel_rfl) ?_) | (refine wpList_load_rowG (by rfl) 40 _ rfl _ rfl _ _ (0, 0) _ (by assumption) Tryz.underlying40 rfl (by kernel_rfl) ?_))
    refine (toSite_any la dy mi e1 n1 fe fn fu ho ha ne lo hi st up A0 cap0 xs0 _ hA_2 (by omega)).mono ?_; rintro e' w3 ⟨gD, rfl, hgD, hD3, hw3⟩
    have hP3 := blk_next hP2 hw3
    have hA_3 := hA_2.next hw3
    have hS3 := hS2.next hw3
    have hB3 := bel_next hB2 hw3
    have hz3 := hw3.size
    obtain ⟨zX, hzX⟩ : ∃ z, w3.heap.size = z := ⟨_, rfl⟩
    have hXl : w.heap.size < zX := by have := blk_lt hP3; omega
    have hDl := hD3.lt
    have hX4 := blk_new w3 (.cells #[.int .i64 la, .int .i64 dy, .int .i64 mi, .slice (some ⟨gD, 0, none⟩) xs0.length xs0.length, .int .i64 e1, .int .i64 n1, .int .i64 fe, .int .i64 fn, .int .i64 fu, .int .i64 ho, .int .i64 ha, .int .i64 ne, .int .i64 lo, .int .i64 hi, .bool up, .int .i64 st] 40 (0, 0))
    have hP4 := blk_old hP3 (.cells #[.int .i64 la, .int .i64 dy, .int .i64 mi, .slice (some ⟨gD, 0, none⟩) xs0.length xs0.length, .int .i64 e1, .int .i64 n1, .int .i64 fe, .int .i64 fn, .int .i64 fu, .int .i64 ho, .int .i64 ha, .int .i64 ne, .int .i64 lo, .int .i64 hi, .bool up, .int .i64 st] 40 (0, 0))
    have hB4 := hB3.alloc hB3.size (.cells #[.int .i64 la, .int .i64 dy, .int .i64 mi, .slice (some ⟨gD, 0, none⟩) xs0.length xs0.length, .int .i64 e1, .int .i64 n1, .int .i64 fe, .int .i64 fn, .int .i64 fu, .int .i64 ho, .int .i64 ha, .int .i64 ne, .int .i64 lo, .int .i64 hi, .bool up, .int .i64 st] 40 (0, 0))
    have hA_4 := hA_3.next (bel1 _ (.cells #[.int .i64 la, .int .i64 dy, .int .i64 mi, .slice (some ⟨gD, 0, none⟩) xs0.length xs0.length, .int .i64 e1, .int .i64 n1, .int .i64 fe, .int .i64 fn, .int .i64 fu, .int .i64 ho, .int .i64 ha, .int .i64 ne, .int .i64 lo, .int .i64 hi, .bool up, .int .i64 st] 40 (0, 0)))
    have hS4 := hS3.next (bel1 _ (.cells #[.int .i64 la, .int .i64 dy, .int .i64 mi, .slice (some ⟨gD, 0, none⟩) xs0.length xs0.length, .int .i64 e1, .int .i64 n1, .int .i64 fe, .int .i64 fn, .int .i64 fu, .int .i64 ho, .int .i64 ha, .int .i64 ne, .int .i64 lo, .int .i64 hi, .bool up, .int .i64 st] 40 (0, 0)))
    have hD4 := hD3.next (bel1 _ (.cells #[.int .i64 la, .int .i64 dy, .int .i64 mi, .slice (some ⟨gD, 0, none⟩) xs0.length xs0.length, .int .i64 e1, .int .i64 n1, .int .i64 fe, .int .i64 fn, .int .i64 fu, .int .i64 ho, .int .i64 ha, .int .i64 ne, .int .i64 lo, .int .i64 hi, .bool up, .int .i64 st] 40 (0, 0)))
    rw [hzX] at hX4
    have HZX := Lib.hid hzX
    have zB0 := hB4.size
    have hgDw : gD < w3.heap.size := hDl
    have hzXD : gD < zX := by have := HZX.out; omega
    obtain ⟨nb, hnb⟩ : ∃ nb, (w3.alloc (.cells #[.int .i64 la, .int .i64 dy, .int .i64 mi, .slice (some ⟨gD, 0, none⟩) xs0.length xs0.length, .int .i64 e1, .int .i64 n1, .int .i64 fe, .int .i64 fn, .int .i64 fu, .int .i64 ho, .int .i64 ha, .int .i64 ne, .int .i64 lo, .int .i64 hi, .bool up, .int .i64 st] 40 (0, 0))).heap.size = nb := ⟨_, rfl⟩
    have hnz : zX < nb := by rw [← hnb]; exact blk_lt hX4
    have HNB := Lib.hid hnb
    clear hnb
    go_wp2_with (first | (refine wpList_load_row rfl 32 _ rfl _ rfl _ _ (0, 0) _ (by assumption) Tryz.underlying32 rfl (by kernel_rfl) ?_) | (refine wpList_load_row rfl 40 _ rfl _ rfl _ _ (0, 0) _ (by assumption) Tryz.underlying40 rfl (by kernel_rfl) ?_) | (refine wpList_load_rowG (by rfl) 40 _ rfl _ rfl _ _ (0, 0) _ (by assumption) Tryz.underlying40 rfl (by kernel_rfl) ?_))
    refine (iSLs_is la dy mi e1 n1 fe fn fu ho ha ne lo hi st up _ _ xs0 _ rfl hD4.row (by omega) HV.out).mono ?_; rintro e' w5 ⟨Ai, ci, rfl, hI5, hw5⟩
    have hP5 := blk_next hP4 hw5
    have hX5 := blk_next hX4 hw5
    have hA_5 := hA_4.next hw5
    have hS5 := hS4.next hw5
    have hD5 := hD4.next hw5
    have hB5 := bel_next hB4 hw5
    rw [HM.out]
    have hz5 := hw5.size
    have hIge : ∀ g, Ai = some ⟨g, 0, none⟩ → nb ≤ g := fun g hg => by rcases hI5.form with ⟨e, _⟩ | ⟨g1, e, h, _⟩; rw [e] at hg; cases hg; rw [e] at hg; cases hg; rw [HNB.out] at h; exact h
    have hI5 := hI5.mono (base' := w.heap.size) (by rw [HNB.out]; omega)
    go_wp2_with (first | (refine wpList_load_row rfl 32 _ rfl _ rfl _ _ (0, 0) _ (by assumption) Tryz.underlying32 rfl (by kernel_rfl) ?_) | (refine wpList_load_row rfl 40 _ rfl _ rfl _ _ (0, 0) _ (by assumption) Tryz.underlying40 rfl (by kernel_rfl) ?_) | (refine wpList_load_rowG (by rfl) 40 _ rfl _ rfl _ _ (0, 0) _ (by assumption) Tryz.underlying40 rfl (by kernel_rfl) ?_))
    refine (eqNumS_same _ _ _ _ l HM.out hI5.row hS5.row (by omega)).mono ?_; rintro e' w6 ⟨rfl, hw6⟩
    have hP6 := blk_next hP5 hw6
    have hX6 := blk_next hX5 hw6
    have hA_6 := hA_5.next hw6
    have hS6 := hS5.next hw6
    have hD6 := hD5.next hw6
    have hI6 := hI5.next hw6
    have hB6 := bel_next hB5 hw6
    go_wp2_with (first | (refine wpList_load_row rfl 32 _ rfl _ rfl _ _ (0, 0) _ (by assumption) Tryz.underlying32 rfl (by kernel_rfl) ?_) | (refine wpList_load_row rfl 40 _ rfl _ rfl _ _ (0, 0) _ (by assumption) Tryz.underlying40 rfl (by kernel_rfl) ?_) | (refine wpList_load_rowG (by rfl) 40 _ rfl _ rfl _ _ (0, 0) _ (by assumption) Tryz.underlying40 rfl (by kernel_rfl) ?_))
    refine wp_region_held_drew (S := (fun w' => w'.heap[w.heap.size]? = some (.cells #[.int .i64 la, .int .i64 dy, .int .i64 mi, .slice A0 xs0.length cap0, .int .i64 e1, .int .i64 n1, .int .i64 fe, .int .i64 fn, .int .i64 fu, .int .i64 ho, .int .i64 ha, .int .i64 ne, .int .i64 lo, .int .i64 hi, .bool up, .int .i64 st] 32 (0, 0)) ∧ w'.heap[zX]? = some (.cells #[.int .i64 la, .int .i64 dy, .int .i64 mi, .slice (some ⟨gD, 0, none⟩) xs0.length xs0.length, .int .i64 e1, .int .i64 n1, .int .i64 fe, .int .i64 fn, .int .i64 fu, .int .i64 ho, .int .i64 ha, .int .i64 ne, .int .i64 lo, .int .i64 hi, .bool up, .int .i64 st] 40 (0, 0)) ∧ SRow encBlock w' A0 xs0 ∧ SBlk encBlock w' gD 58 xs0 ∧ SOwn encNum w' w.heap.size 3 As cs l ∧ SOwn encNum w' w.heap.size 3 Ai ci l ∧ Below w.heap.size w w')) (by kernel_rfl) ⟨hP6, hX6, hA_6, hD6, hS6.drew, hI6.drew, hB6.drew⟩ (fun hHeld => ?_)
    obtain ⟨hP_0, hX_0, hA_0, hD_0, hS_0, hI_0, hB_0⟩ := id hHeld
    refine wpAnyH_take (i := 0) (oi := _) (v := ?_) rfl (by kernel_rfl) (by kernel_rfl) (by kernel_rfl) (fun _ _ _ h => h) (Or.inl ⟨by rfl, ?_⟩) (by assumption) ?_
    (rotate_left); (focus (intro wv hSw; (obtain ⟨qP, qX, qA, qD, qS, qI, qB⟩ := hSw); refine run_load_row9 40 ?x9X ?h9X _ ?e9X _ _ (0, 0) _ qX Tryz.underlying40 rfl (by kernel_rfl); (case h9X => rfl); (case e9X => rfl)))
    try simp only [Act.put, List.getElem_toArray, List.getElem_cons_succ, List.getElem_cons_zero, List.setIfInBounds_toArray, List.set_cons_zero, List.set_cons_succ]
    refine wpAnyH_take (i := 1) (oi := _) (v := ?_) rfl (by kernel_rfl) (by kernel_rfl) (by kernel_rfl) (fun _ _ _ h => h) (Or.inl ⟨by rfl, ?_⟩) (by assumption) ?_
    (rotate_left); (focus (intro wv hSw; (obtain ⟨qP, qX, qA, qD, qS, qI, qB⟩ := hSw); refine run_load_row9 32 ?x9P ?h9P _ ?e9P _ _ (0, 0) _ qP Tryz.underlying32 rfl (by kernel_rfl); (case h9P => rfl); (case e9P => rfl)))
    try simp only [Act.put, List.getElem_toArray, List.getElem_cons_succ, List.getElem_cons_zero, List.setIfInBounds_toArray, List.set_cons_zero, List.set_cons_succ]
    refine wpAnyH_ready (rs := [2]) (by kernel_rfl) (by simp) ?_
    refine AllReadyH.cons (o := _) rfl (fun K hK => ?_) AllReadyH.nil
    go_simp
    (go_at_call 10; refine (toSite_any la dy mi e1 n1 fe fn fu ho ha ne lo hi st up A0 cap0 xs0 _ hA_0 (by omega)).mono ?_; rintro e x0c ⟨gE, rfl, hgE, hE_0c, hw_0c⟩)
    refine hK.out _ _ ⟨blk_next hP_0 hw_0c, blk_next hX_0 hw_0c, hA_0.next hw_0c, hD_0.next hw_0c, hS_0.next hw_0c, hI_0.next hw_0c, bel_next hB_0 hw_0c⟩ (fun hHeld => ?_)
    clear hK K
    try simp only [Act.put, List.getElem_toArray, List.getElem_cons_succ, List.getElem_cons_zero, List.setIfInBounds_toArray, List.set_cons_zero, List.set_cons_succ]
    obtain ⟨hP_0c, hX_0c, hA_0c, hD_0c, hS_0c, hI_0c, hB_0c⟩ := id hHeld
    refine wpAnyH_ready (rs := [3]) (by kernel_rfl) (by simp) ?_
    refine AllReadyH.cons (o := _) rfl (fun K hK => ?_) AllReadyH.nil
    go_simp
    (go_at_call 12; refine (eqSite_same la dy mi e1 n1 fe fn fu ho ha ne lo hi st up _ _ _ _ xs0 rfl hD_0c.row hE_0c.row (by omega)).mono ?_; rintro e x0cc ⟨rfl, hw_0cc⟩)
    refine hK.out _ _ ⟨blk_next hP_0c hw_0cc, blk_next hX_0c hw_0cc, hA_0c.next hw_0cc, hD_0c.next hw_0cc, hS_0c.next hw_0cc, hI_0c.next hw_0cc, bel_next hB_0c hw_0cc⟩ (fun hHeld => ?_)
    clear hK K
    try simp only [Act.put, List.getElem_toArray, List.getElem_cons_succ, List.getElem_cons_zero, List.setIfInBounds_toArray, List.set_cons_zero, List.set_cons_succ]
    obtain ⟨hP_0cc, hX_0cc, hA_0cc, hD_0cc, hS_0cc, hI_0cc, hB_0cc⟩ := id hHeld
    refine wpAnyH_take (i := 4) (oi := _) (v := ?_) rfl (by kernel_rfl) (by kernel_rfl) (by kernel_rfl) (fun _ _ _ h => h) (Or.inl ⟨by rfl, ?_⟩) (by assumption) ?_
    (rotate_left); (focus (intro wv hSw; (obtain ⟨qP, qX, qA, qD, qS, qI, qB⟩ := hSw);  go_simp; (try with_reducible rfl)))
    try simp only [Act.put, List.getElem_toArray, List.getElem_cons_succ, List.getElem_cons_zero, List.setIfInBounds_toArray, List.set_cons_zero, List.set_cons_succ]
    refine wpAnyH_done (by kernel_rfl) ?_ _
    have hP7 := hP_0cc
    have hX7 := hX_0cc
    have hA_7 := hA_0cc
    have hD7 := hD_0cc
    have hS7 := hS_0cc
    have hI7 := hI_0cc
    have hB7 := hB_0cc
    clear hP_0cc hX_0cc hA_0cc hD_0cc hS_0cc hI_0cc hB_0cc
    go_wp2_with (first | (refine wpList_load_row rfl 32 _ rfl _ rfl _ _ (0, 0) _ (by assumption) Tryz.underlying32 rfl (by kernel_rfl) ?_) | (refine wpList_load_row rfl 40 _ rfl _ rfl _ _ (0, 0) _ (by assumption) Tryz.underlying40 rfl (by kernel_rfl) ?_) | (refine wpList_load_rowG (by rfl) 40 _ rfl _ rfl _ _ (0, 0) _ (by assumption) Tryz.underlying40 rfl (by kernel_rfl) ?_))
    refine (markSite_any la dy mi e1 n1 fe fn fu ho ha ne lo hi st up w.heap.size _ _ xs0 1 rfl hB7.size (SOwn.of_blk (base := w.heap.size) hD7 (by omega) rfl l0) (by omega) (by omega) (by omega)).mono ?_; rintro e' wM ⟨rfl, hDM, hG⟩
    have hB8 : Below w.heap.size w wM := hB7.grown hG hB7.size (fun j hj => by simp [Value.ownBlock] at hj; omega)
    have hI8 := hI7.grown_far hG (fun g hg e => by have := hIge g hg; simp [Value.ownBlock] at e; omega)
    have hS8 := hS7.grown_far hG (fun g hg e => by have := hSlt g hg; simp [Value.ownBlock] at e; omega)
    have hP8 := blk_grownE hP7 hG (by simp [Value.ownBlock]; omega)
    have hA_8 := hW0.next hB8
    have hk0 : ¬ (1 + 5 * (xs0.length : Int)) < 0 := by omega
    clear hG hDM
    go_wp2_with (first | (refine wpList_load_row rfl 32 _ rfl _ rfl _ _ (0, 0) _ (by assumption) Tryz.underlying32 rfl (by kernel_rfl) ?_) | (refine wpList_load_row rfl 40 _ rfl _ rfl _ _ (0, 0) _ (by assumption) Tryz.underlying40 rfl (by kernel_rfl) ?_) | (refine wpList_load_rowG (by rfl) 40 _ rfl _ rfl _ _ (0, 0) _ (by assumption) Tryz.underlying40 rfl (by kernel_rfl) ?_))
    refine (eqNumS_same _ _ _ _ l HM.out hI8.row hS8.row (by omega)).mono ?_; rintro e' w9 ⟨rfl, hw9⟩
    have hP9 := blk_next hP8 hw9
    have hA_9 := hA_8.next hw9
    have hS9 := hS8.next hw9
    have hI9 := hI8.next hw9
    have hB9 := bel_next hB8 hw9
    go_wp2_with (first | (refine wpList_load_row rfl 32 _ rfl _ rfl _ _ (0, 0) _ (by assumption) Tryz.underlying32 rfl (by kernel_rfl) ?_) | (refine wpList_load_row rfl 40 _ rfl _ rfl _ _ (0, 0) _ (by assumption) Tryz.underlying40 rfl (by kernel_rfl) ?_) | (refine wpList_load_rowG (by rfl) 40 _ rfl _ rfl _ _ (0, 0) _ (by assumption) Tryz.underlying40 rfl (by kernel_rfl) ?_))
    refine (markNumS_any w.heap.size _ _ l 1 HM.out hI9 (by omega) (by omega) (by omega)).mono ?_; rintro e' wN ⟨rfl, hIN, hG⟩
    have hB10 : Below w.heap.size w wN := SOwn.below_grown hI9 hB9 hG
    have hS10 := hS9.grown_far hG (fun g hg e => by have := hSlt g hg; rcases hI9.form with ⟨e2, _⟩ | ⟨g1, e2, h, _⟩; rw [e2] at e; simp [Value.ownBlock] at e; rw [e2] at e; simp [Value.ownBlock] at e; have := hIge g1 e2; omega)
    have hP10 := blk_grownE hP9 hG (fun e => by rcases hI9.form with ⟨e2, _⟩ | ⟨g1, e2, h, _⟩; rw [e2] at e; simp [Value.ownBlock] at e; rw [e2] at e; simp [Value.ownBlock] at e; have := hIge g1 e2; omega)
    clear hG
    have hI10 := hIN
    have hA_10 := hW0.next hB10
    go_wp2_with (first | (refine wpList_load_row rfl 32 _ rfl _ rfl _ _ (0, 0) _ (by assumption) Tryz.underlying32 rfl (by kernel_rfl) ?_) | (refine wpList_load_row rfl 40 _ rfl _ rfl _ _ (0, 0) _ (by assumption) Tryz.underlying40 rfl (by kernel_rfl) ?_) | (refine wpList_load_rowG (by rfl) 40 _ rfl _ rfl _ _ (0, 0) _ (by assumption) Tryz.underlying40 rfl (by kernel_rfl) ?_))
    refine (heldNumS_any Ai ci 1 (m := m) hI10.row (by omega) (by omega) (by omega)).mono ?_; rintro e' w11 ⟨rfl, hw11⟩
    have hP11 := blk_next hP10 hw11
    have hA_11 := hA_10.next hw11
    have hS11 := hS10.next hw11
    have hI11 := hI10.next hw11
    have hB11 := bel_next hB10 hw11
    have hk1 : ¬ (1 + (m : Int)) < 0 := by omega
    go_wp2_with (first | (refine wpList_load_row rfl 32 _ rfl _ rfl _ _ (0, 0) _ (by assumption) Tryz.underlying32 rfl (by kernel_rfl) ?_) | (refine wpList_load_row rfl 40 _ rfl _ rfl _ _ (0, 0) _ (by assumption) Tryz.underlying40 rfl (by kernel_rfl) ?_) | (refine wpList_load_rowG (by rfl) 40 _ rfl _ rfl _ _ (0, 0) _ (by assumption) Tryz.underlying40 rfl (by kernel_rfl) ?_))
    refine (toSite_any la dy mi e1 n1 fe fn fu ho ha ne lo hi st up A0 cap0 xs0 _ hA_11 (by omega)).mono ?_; rintro e' w12 ⟨gF, rfl, hgF, hF12, hw12⟩
    have hP12 := blk_next hP11 hw12
    have hA_12 := hA_11.next hw12
    have hS12 := hS11.next hw12
    have hI12 := hI11.next hw12
    have hB12 := bel_next hB11 hw12
    go_wp2_with (first | (refine wpList_load_row rfl 32 _ rfl _ rfl _ _ (0, 0) _ (by assumption) Tryz.underlying32 rfl (by kernel_rfl) ?_) | (refine wpList_load_row rfl 40 _ rfl _ rfl _ _ (0, 0) _ (by assumption) Tryz.underlying40 rfl (by kernel_rfl) ?_) | (refine wpList_load_rowG (by rfl) 40 _ rfl _ rfl _ _ (0, 0) _ (by assumption) Tryz.underlying40 rfl (by kernel_rfl) ?_))
    refine (iSLs_is la dy mi e1 n1 fe fn fu ho ha ne lo hi st up _ _ xs0 _ rfl hF12.row (by omega) HV.out).mono ?_; rintro e' w13 ⟨Ah, ch, rfl, hHH13, hw13⟩
    have hP13 := blk_next hP12 hw13
    have hA_13 := hA_12.next hw13
    have hS13 := hS12.next hw13
    have hI13 := hI12.next hw13
    have hF13 := hF12.next hw13
    have hB13 := bel_next hB12 hw13
    rw [HM.out]
    go_wp2_with (first | (refine wpList_load_row rfl 32 _ rfl _ rfl _ _ (0, 0) _ (by assumption) Tryz.underlying32 rfl (by kernel_rfl) ?_) | (refine wpList_load_row rfl 40 _ rfl _ rfl _ _ (0, 0) _ (by assumption) Tryz.underlying40 rfl (by kernel_rfl) ?_) | (refine wpList_load_rowG (by rfl) 40 _ rfl _ rfl _ _ (0, 0) _ (by assumption) Tryz.underlying40 rfl (by kernel_rfl) ?_))
    refine (eqNumS_same _ _ _ _ l HM.out hHH13.row hS13.row (by omega)).mono ?_; rintro e' w14 ⟨rfl, hw14⟩
    have hP14 := blk_next hP13 hw14
    have hA_14 := hA_13.next hw14
    have hS14 := hS13.next hw14
    have hI14 := hI13.next hw14
    have hF14 := hF13.next hw14
    have hHH14 := hHH13.next hw14
    have hB14 := bel_next hB13 hw14
    go_wp2_with (first | (refine wpList_load_row rfl 32 _ rfl _ rfl _ _ (0, 0) _ (by assumption) Tryz.underlying32 rfl (by kernel_rfl) ?_) | (refine wpList_load_row rfl 40 _ rfl _ rfl _ _ (0, 0) _ (by assumption) Tryz.underlying40 rfl (by kernel_rfl) ?_) | (refine wpList_load_rowG (by rfl) 40 _ rfl _ rfl _ _ (0, 0) _ (by assumption) Tryz.underlying40 rfl (by kernel_rfl) ?_))
    refine (heldNumS_any Ai ci 1 (m := m) hI14.row (by omega) (by omega) (by omega)).mono ?_; rintro e' w15 ⟨rfl, hw15⟩
    have hP15 := blk_next hP14 hw15
    have hA_15 := hA_14.next hw15
    have hS15 := hS14.next hw15
    have hI15 := hI14.next hw15
    have hF15 := hF14.next hw15
    have hHH15 := hHH14.next hw15
    have hB15 := bel_next hB14 hw15
    go_wp2_with (first | (refine wpList_load_row rfl 32 _ rfl _ rfl _ _ (0, 0) _ (by assumption) Tryz.underlying32 rfl (by kernel_rfl) ?_) | (refine wpList_load_row rfl 40 _ rfl _ rfl _ _ (0, 0) _ (by assumption) Tryz.underlying40 rfl (by kernel_rfl) ?_) | (refine wpList_load_rowG (by rfl) 40 _ rfl _ rfl _ _ (0, 0) _ (by assumption) Tryz.underlying40 rfl (by kernel_rfl) ?_))
    go_ret
    exact ⟨rfl, by first | exact hB15 | exact hB15.drew⟩
set_option maxRecDepth 100000 in
theorem lifted (os : Os) (started : os.Started) (H : Type) (enc : TypeId × Value → H) :
    ReturnsInHanded {} Tryz.checked os 5 .any (Rows.fnExactSiteLightsSpec.pre6 enc Tryz.prog Tryz.f5 Rows.fnExactSiteLightsRow.domain false) (Rows.fnExactSiteLightsSpec.post enc Tryz.prog Tryz.f5 false true false false) := by
  refine returnsInHanded_of_change (C := Tryz.checked) own started (by kernel_rfl) Tryz.func5
    (ChangeSpec.witness6 (enc := enc) (C := Tryz.checked) false ⟨#[], #[.agg #[.int .i64 0, .int .i64 0, .int .i64 0, .slice none 0 0, .int .i64 0, .int .i64 0, .int .i64 0, .int .i64 0, .int .i64 0, .int .i64 0, .int .i64 0, .int .i64 0, .int .i64 0, .int .i64 0, .bool false, .int .i64 0], .int .i64 0], []⟩ 8 (by kernel_rfl) (by kernel_rfl) (by kernel_rfl) (by kernel_rfl)) ?_
  intro W base args ds gs before hval0 hW hcnd _
  have hval : ∀ (j : Nat) t v, Tryz.f5.params[j]? = some t → args[j]? = some v → Value.okWide Tryz.prog W .any base t v := hval0
  have hW' := hW
  obtain ⟨p, q, hA0, hV, rfl, hfz, hnd⟩ := hW
  have hA : DataW.TrodAll enc Tryz.prog W 0 (fun _ => true) true Tryz.f5.params.toList args.toList ds p := hA0
  rw [Tryz.params5] at hA hval
  obtain ⟨v0, vs0, d0, ds0, p0, q0, hargs, rfl, rfl, h0, r0⟩ := trodAll_cons hA
  obtain ⟨v1, vs1, d1, ds1, p1, q1, rfl, rfl, rfl, h1, r1⟩ := trodAll_cons r0
  obtain ⟨rfl, rfl, rfl⟩ := trodAll_nil r1
  obtain rfl : args = #[v0, v1] := by cases args; simp_all
  obtain ⟨rfl, rfl⟩ := trodVars_none hV
  have k0 := h0
  have lt0 : ∀ x ∈ p0, x.block < W.heap.size := by obtain ⟨m, hm⟩ := k0; exact DataW.trod_lt m _ _ _ hm
  have k1 := h1
  have lt1 : ∀ x ∈ p1, x.block < W.heap.size := by obtain ⟨m, hm⟩ := k1; exact DataW.trod_lt m _ _ _ hm
  obtain ⟨la, dy, mi, e1, n1, fe, fn, fu, ho, ha, ne, lo, hi, st, up, A0, cap0, xs0, rfl, w0, l0, q0⟩ := openSite (hval 0 32 v0 rfl rfl) h0
  obtain ⟨a1, rfl, rfl, rfl, w1⟩ := open_int Tryz.underlying3 (hval 1 3 v1 rfl rfl) h1
  clear hA0 hval0
  refine (walk W la dy mi e1 n1 fe fn fu ho ha ne lo hi st up A0 cap0 xs0 w0 l0 q0 a1 w1).mono fun e W' ⟨he, bel⟩ => ?_
  subst he
  exact ⟨_, rfl, _, _, _, [], _, [], hW', trodAll_mk1 (shut_bool Tryz.underlying4 _), (trodAll_cons_mk (Below.trod laidOut (by kernel_rfl) (of_decide_eq_true (by kernel_rfl)) k0 bel lt0) (trodAll_cons_mk (Below.trod laidOut (by kernel_rfl) (of_decide_eq_true (by kernel_rfl)) k1 bel lt1) trodAll_mk0)), rfl, bel.frame _, fun h => by cases h⟩
theorem over : Rows.fnExactSiteLightsRow.holds Tryz.pinned (OpenSpec.ofChange Rows.fnExactSiteLightsSpec) :=
  OpenClaim.holds_of_wide 5 Tryz.f5 rfl rfl rfl rfl rfl rfl rfl ⟨rfl, rfl, rfl, rfl, rfl⟩ rfl rfl rfl rfl rfl (by kernel_rfl) Tryz.func5 (by kernel_rfl)
    (of_decide_eq_true (by kernel_rfl)) (by unfold Func.isWrapper; first | (rw [if_pos (by decide +kernel)]; kernel_rfl) | (rw [if_neg (by decide +kernel)]; exact ⟨rfl, rfl⟩))
    (fun os started H enc _ => lifted os started H enc)
/-- The statement. -/
theorem proved : Rows.FnExactSiteLightsSaid :=
  over
#print axioms proved
end Go.Proofs.YtigndpajpofofaaGreat.fnExactSiteLights
