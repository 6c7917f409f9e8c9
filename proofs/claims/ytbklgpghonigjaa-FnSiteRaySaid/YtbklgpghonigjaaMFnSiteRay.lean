/- FnSiteRay: whatever the input, the law returns true, and its arguments read as they did. No conditions beyond those of the statement's row. -/
import Derived.Laws.Rows
import Derived.Test.YtbklgpghonigjaaMEd
import Derived.Test.YtbklgpghonigjaaMEm
import Derived.Test.YtbklgpghonigjaaMQJ
import Derived.Test.YtbklgpghonigjaaMQH
import Derived.Test.YtbklgpghonigjaaMQN
namespace Go.Proofs.Ytbklgpghonigjaa.fnSiteRay
open Go.Proofs.Ytbklgpghonigjaa
open Go Go.RowKit
open Go.ChangeShapes Go.WideShapes Go.ChangeAt Go.RowKit Go.Joins
set_option linter.unusedVariables false
set_option linter.unusedSimpArgs false
set_option linter.unnecessarySimpa false
theorem own : ownKnob Try.prog.godebug = none := by kernel_rfl
theorem laidOut : laidOutB Try.prog = true := by kernel_rfl
set_option maxRecDepth 100000 in
set_option maxHeartbeats 4000000 in
theorem walk (w : World) (a0 : Option Addr) (len0 cap0 : Nat) (w0 : CodeOk w a0 len0 cap0) :
    Calls Try.prog 4 #[.slice a0 len0 cap0] w fun e w' => e = .returned (.bool true) ∧ Below w.heap.size w w' := by
  by_cases hl : 1048576 < len0
  · have w0' := w0.2.1
    unfold maxLen at w0'
    clear w0
    go_enter Try.func4, Try.ntmps4
    go_wp2_with (first | (refine wpList_load_row rfl 33 _ rfl _ rfl _ _ (0, 0) _ (by assumption) Try.underlying33 rfl (by kernel_rfl) ?_) | (refine wpList_load_rowG (by rfl) 33 _ rfl _ rfl _ _ (0, 0) _ (by assumption) Try.underlying33 rfl (by kernel_rfl) ?_))
    go_ret
    exact ⟨rfl, Below.refl _ _⟩
  · have w0' := w0.2.1
    unfold maxLen at w0'
    have hle := w0.1
    have HW := Lib.hid w0
    clear w0
    go_enter Try.func4, Try.ntmps4
    go_wp2_with (first | (refine wpList_load_row rfl 33 _ rfl _ rfl _ _ (0, 0) _ (by assumption) Try.underlying33 rfl (by kernel_rfl) ?_) | (refine wpList_load_rowG (by rfl) 33 _ rfl _ rfl _ _ (0, 0) _ (by assumption) Try.underlying33 rfl (by kernel_rfl) ?_))
    refine (drSiteRay_any _ _ _ _ HW.out).mono ?_; rintro e w1 ⟨la, dy, mi, e1, n1, fe, fn, fu, ho, ha, ne, lo, hi, st, up, xs, A, cp, rfl, ⟨hh0, hh1⟩, hx6, hO0, hB0⟩
    obtain ⟨m, hm⟩ : ∃ m, xs.length = m := ⟨_, rfl⟩
    rw [hm] at hx6 ⊢
    have HM := Lib.hid hm
    clear hm
    cases hv : siB la dy mi e1 n1 fe fn fu ho ha ne lo hi st xs
    · have HX : Hid (srE la dy mi e1 n1 fe fn fu ho ha ne lo hi st xs = 0) := Lib.hid (by unfold srE; rw [hv]; rfl)
      have HY : Hid (srN la dy mi e1 n1 fe fn fu ho ha ne lo hi st xs = 0) := Lib.hid (by unfold srN; rw [hv]; rfl)
      have HZ : Hid (srU la dy mi e1 n1 fe fn fu ho ha ne lo hi st xs = 0) := Lib.hid (by unfold srU; rw [hv]; rfl)
      have HO : Hid (srO la dy mi e1 n1 fe fn fu ho ha ne lo hi st xs = false) := Lib.hid (by unfold srO; rw [hv]; rfl)
      have HV := Lib.hid hv
      clear hv
      have hP1 : (w1.alloc (.cells #[.int .i64 la, .int .i64 dy, .int .i64 mi, .slice A m cp, .int .i64 e1, .int .i64 n1, .int .i64 fe, .int .i64 fn, .int .i64 fu, .int .i64 ho, .int .i64 ha, .int .i64 ne, .int .i64 lo, .int .i64 hi, .bool up, .int .i64 st] 33 (0, 0))).heap[w1.heap.size]? = some (.cells #[.int .i64 la, .int .i64 dy, .int .i64 mi, .slice A m cp, .int .i64 e1, .int .i64 n1, .int .i64 fe, .int .i64 fn, .int .i64 fu, .int .i64 ho, .int .i64 ha, .int .i64 ne, .int .i64 lo, .int .i64 hi, .bool up, .int .i64 st] 33 (0, 0)) := by have := blk_new (w1) (.cells #[.int .i64 la, .int .i64 dy, .int .i64 mi, .slice A m cp, .int .i64 e1, .int .i64 n1, .int .i64 fe, .int .i64 fn, .int .i64 fu, .int .i64 ho, .int .i64 ha, .int .i64 ne, .int .i64 lo, .int .i64 hi, .bool up, .int .i64 st] 33 (0, 0)); simpa using this
      have hB1 := hB0.alloc hB0.size (.cells #[.int .i64 la, .int .i64 dy, .int .i64 mi, .slice A m cp, .int .i64 e1, .int .i64 n1, .int .i64 fe, .int .i64 fn, .int .i64 fu, .int .i64 ho, .int .i64 ha, .int .i64 ne, .int .i64 lo, .int .i64 hi, .bool up, .int .i64 st] 33 (0, 0))
      have hO1 := hO0.next (bel1 _ (.cells #[.int .i64 la, .int .i64 dy, .int .i64 mi, .slice A m cp, .int .i64 e1, .int .i64 n1, .int .i64 fe, .int .i64 fn, .int .i64 fu, .int .i64 ho, .int .i64 ha, .int .i64 ne, .int .i64 lo, .int .i64 hi, .bool up, .int .i64 st] 33 (0, 0)))
      have zBP := hB0.size
      go_wp2_with (first | (refine wpList_load_row rfl 33 _ rfl _ rfl _ _ (0, 0) _ (by assumption) Try.underlying33 rfl (by kernel_rfl) ?_) | (refine wpList_load_rowG (by rfl) 33 _ rfl _ rfl _ _ (0, 0) _ (by assumption) Try.underlying33 rfl (by kernel_rfl) ?_))
      refine (iSRv_is la dy mi e1 n1 fe fn fu ho ha ne lo hi st up A cp xs _ HM.out hO1.row (by omega) HX.out HY.out HZ.out HO.out).mono ?_; rintro e' w2 ⟨rfl, hw2⟩
      have hP2 := blk_next hP1 hw2
      have hO2 := hO1.next hw2
      have hB2 := bel_next hB1 hw2
      have zPU := blk_lt hP2
      have hU3 : (w2.alloc (.cells #[.int .i64 0, .int .i64 0, .int .i64 0] 38 (0, 0))).heap[w2.heap.size]? = some (.cells #[.int .i64 0, .int .i64 0, .int .i64 0] 38 (0, 0)) := by have := blk_new (w2) (.cells #[.int .i64 0, .int .i64 0, .int .i64 0] 38 (0, 0)); simpa using this
      have hP3 := blk_old hP2 (.cells #[.int .i64 0, .int .i64 0, .int .i64 0] 38 (0, 0))
      have hB3 := hB2.alloc hB2.size (.cells #[.int .i64 0, .int .i64 0, .int .i64 0] 38 (0, 0))
      have hO3 := hO2.next (bel1 _ (.cells #[.int .i64 0, .int .i64 0, .int .i64 0] 38 (0, 0)))
      have zBU := hB2.size
      go_wp2_with (first | (refine wpList_load_row rfl 33 _ rfl _ rfl _ _ (0, 0) _ (by assumption) Try.underlying33 rfl (by kernel_rfl) ?_) | (refine wpList_load_rowG (by rfl) 33 _ rfl _ rfl _ _ (0, 0) _ (by assumption) Try.underlying33 rfl (by kernel_rfl) ?_))
      refine (sSRv_is la dy mi e1 n1 fe fn fu ho ha ne lo hi st up A cp xs _ HM.out hO3.row (by omega) HX.out HY.out HZ.out HO.out).mono ?_; rintro e' w4 ⟨rfl, hw4⟩
      have hP4 := blk_next hP3 hw4
      have hU4 := blk_next hU3 hw4
      have hO4 := hO3.next hw4
      have hB4 := bel_next hB3 hw4
      have zPV := blk_lt hP4
      have zUV := blk_lt hU4
      have hV5 : (w4.alloc (.cells #[.int .i64 0, .int .i64 0, .int .i64 0] 38 (0, 0))).heap[w4.heap.size]? = some (.cells #[.int .i64 0, .int .i64 0, .int .i64 0] 38 (0, 0)) := by have := blk_new (w4) (.cells #[.int .i64 0, .int .i64 0, .int .i64 0] 38 (0, 0)); simpa using this
      have hP5 := blk_old hP4 (.cells #[.int .i64 0, .int .i64 0, .int .i64 0] 38 (0, 0))
      have hU5 := blk_old hU4 (.cells #[.int .i64 0, .int .i64 0, .int .i64 0] 38 (0, 0))
      have hB5 := hB4.alloc hB4.size (.cells #[.int .i64 0, .int .i64 0, .int .i64 0] 38 (0, 0))
      have hO5 := hO4.next (bel1 _ (.cells #[.int .i64 0, .int .i64 0, .int .i64 0] 38 (0, 0)))
      have zBV := hB4.size
      obtain ⟨cU5_0, cU5_1, cU5_2, fU5_0, fU5_1, fU5_2, zU5⟩ := blk3 hU5
      obtain ⟨cV5_0, cV5_1, cV5_2, fV5_0, fV5_1, fV5_2, zV5⟩ := blk3 hV5
      go_wp2_with (first | (refine wpList_load_row rfl 33 _ rfl _ rfl _ _ (0, 0) _ (by assumption) Try.underlying33 rfl (by kernel_rfl) ?_) | (refine wpList_load_rowG (by rfl) 33 _ rfl _ rfl _ _ (0, 0) _ (by assumption) Try.underlying33 rfl (by kernel_rfl) ?_))
      refine (sSV10_is la dy mi e1 n1 fe fn fu ho ha ne lo hi st up A cp xs _ HM.out hO5.row (by omega) HV.out).mono ?_; rintro e' w6 ⟨rfl, hw6⟩
      have hP6 := blk_next hP5 hw6
      have hU6 := blk_next hU5 hw6
      have hV6 := blk_next hV5 hw6
      have hO6 := hO5.next hw6
      have hB6 := bel_next hB5 hw6
      obtain ⟨cU6_0, cU6_1, cU6_2, fU6_0, fU6_1, fU6_2, zU6⟩ := blk3 hU6
      go_wp2_with (first | (refine wpList_load_row rfl 33 _ rfl _ rfl _ _ (0, 0) _ (by assumption) Try.underlying33 rfl (by kernel_rfl) ?_) | (refine wpList_load_rowG (by rfl) 33 _ rfl _ rfl _ _ (0, 0) _ (by assumption) Try.underlying33 rfl (by kernel_rfl) ?_))
      refine (alive_bel _).mono ?_; rintro e' w7 ⟨rfl, hw7⟩
      have hP7 := blk_next hP6 hw7
      have hU7 := blk_next hU6 hw7
      have hV7 := blk_next hV6 hw7
      have hO7 := hO6.next hw7
      have hB7 := bel_next hB6 hw7
      go_wp2_with (first | (refine wpList_load_row rfl 33 _ rfl _ rfl _ _ (0, 0) _ (by assumption) Try.underlying33 rfl (by kernel_rfl) ?_) | (refine wpList_load_rowG (by rfl) 33 _ rfl _ rfl _ _ (0, 0) _ (by assumption) Try.underlying33 rfl (by kernel_rfl) ?_))
      go_ret
      exact ⟨rfl, by first | exact hB7 | exact hB7.drew⟩
    · have hs := sky_of hv
      obtain ⟨q, hq⟩ : ∃ q, suI la dy mi = q := ⟨_, rfl⟩
      have HQ : Hid (upS la (tiltI dy) (haI mi) = q) := Lib.hid (by unfold upS; rw [if_pos hs]; exact hq)
      obtain ⟨tl, htl⟩ : ∃ q, tiltI dy = q := ⟨_, rfl⟩
      obtain ⟨an, han⟩ : ∃ q, haI mi = q := ⟨_, rfl⟩
      have HTL := Lib.hid htl
      have HAN := Lib.hid han
      have HQ9 : Hid (upS la tl an = q) := Lib.hid (by rw [← htl, ← han]; exact HQ.out)
      clear HQ hs htl han
      cases ho9 : ryO la dy mi
      · have HO : Hid (srO la dy mi e1 n1 fe fn fu ho ha ne lo hi st xs = false) := Lib.hid (by unfold srO; rw [hv]; exact ho9)
        obtain ⟨n1_, n2_, n3_⟩ := ry_no ho9
        have HX : Hid (srE la dy mi e1 n1 fe fn fu ho ha ne lo hi st xs = 0) := Lib.hid (by unfold srE; rw [if_pos hv]; exact n1_)
        have HY : Hid (srN la dy mi e1 n1 fe fn fu ho ha ne lo hi st xs = 0) := Lib.hid (by unfold srN; rw [if_pos hv]; exact n2_)
        have HZ : Hid (srU la dy mi e1 n1 fe fn fu ho ha ne lo hi st xs = 0) := Lib.hid (by unfold srU; rw [if_pos hv]; exact n3_)
        clear n1_ n2_ n3_
        have hqs : q ≤ 0 := by have h9 := ho9; simp only [ryO, decide_eq_false_iff_not] at h9; rw [hq] at h9; omega
        have hd9 : decide (0 < q) = false := decide_eq_false (by omega)
        have HV := Lib.hid hv
        clear hv hq ho9
        have hP1 : (w1.alloc (.cells #[.int .i64 la, .int .i64 dy, .int .i64 mi, .slice A m cp, .int .i64 e1, .int .i64 n1, .int .i64 fe, .int .i64 fn, .int .i64 fu, .int .i64 ho, .int .i64 ha, .int .i64 ne, .int .i64 lo, .int .i64 hi, .bool up, .int .i64 st] 33 (0, 0))).heap[w1.heap.size]? = some (.cells #[.int .i64 la, .int .i64 dy, .int .i64 mi, .slice A m cp, .int .i64 e1, .int .i64 n1, .int .i64 fe, .int .i64 fn, .int .i64 fu, .int .i64 ho, .int .i64 ha, .int .i64 ne, .int .i64 lo, .int .i64 hi, .bool up, .int .i64 st] 33 (0, 0)) := by have := blk_new (w1) (.cells #[.int .i64 la, .int .i64 dy, .int .i64 mi, .slice A m cp, .int .i64 e1, .int .i64 n1, .int .i64 fe, .int .i64 fn, .int .i64 fu, .int .i64 ho, .int .i64 ha, .int .i64 ne, .int .i64 lo, .int .i64 hi, .bool up, .int .i64 st] 33 (0, 0)); simpa using this
        have hB1 := hB0.alloc hB0.size (.cells #[.int .i64 la, .int .i64 dy, .int .i64 mi, .slice A m cp, .int .i64 e1, .int .i64 n1, .int .i64 fe, .int .i64 fn, .int .i64 fu, .int .i64 ho, .int .i64 ha, .int .i64 ne, .int .i64 lo, .int .i64 hi, .bool up, .int .i64 st] 33 (0, 0))
        have hO1 := hO0.next (bel1 _ (.cells #[.int .i64 la, .int .i64 dy, .int .i64 mi, .slice A m cp, .int .i64 e1, .int .i64 n1, .int .i64 fe, .int .i64 fn, .int .i64 fu, .int .i64 ho, .int .i64 ha, .int .i64 ne, .int .i64 lo, .int .i64 hi, .bool up, .int .i64 st] 33 (0, 0)))
        have zBP := hB0.size
        go_wp2_with (first | (refine wpList_load_row rfl 33 _ rfl _ rfl _ _ (0, 0) _ (by assumption) Try.underlying33 rfl (by kernel_rfl) ?_) | (refine wpList_load_rowG (by rfl) 33 _ rfl _ rfl _ _ (0, 0) _ (by assumption) Try.underlying33 rfl (by kernel_rfl) ?_))
        refine (iSRv_is la dy mi e1 n1 fe fn fu ho ha ne lo hi st up A cp xs _ HM.out hO1.row (by omega) HX.out HY.out HZ.out HO.out).mono ?_; rintro e' w2 ⟨rfl, hw2⟩
        have hP2 := blk_next hP1 hw2
        have hO2 := hO1.next hw2
        have hB2 := bel_next hB1 hw2
        have zPU := blk_lt hP2
        have hU3 : (w2.alloc (.cells #[.int .i64 0, .int .i64 0, .int .i64 0] 38 (0, 0))).heap[w2.heap.size]? = some (.cells #[.int .i64 0, .int .i64 0, .int .i64 0] 38 (0, 0)) := by have := blk_new (w2) (.cells #[.int .i64 0, .int .i64 0, .int .i64 0] 38 (0, 0)); simpa using this
        have hP3 := blk_old hP2 (.cells #[.int .i64 0, .int .i64 0, .int .i64 0] 38 (0, 0))
        have hB3 := hB2.alloc hB2.size (.cells #[.int .i64 0, .int .i64 0, .int .i64 0] 38 (0, 0))
        have hO3 := hO2.next (bel1 _ (.cells #[.int .i64 0, .int .i64 0, .int .i64 0] 38 (0, 0)))
        have zBU := hB2.size
        go_wp2_with (first | (refine wpList_load_row rfl 33 _ rfl _ rfl _ _ (0, 0) _ (by assumption) Try.underlying33 rfl (by kernel_rfl) ?_) | (refine wpList_load_rowG (by rfl) 33 _ rfl _ rfl _ _ (0, 0) _ (by assumption) Try.underlying33 rfl (by kernel_rfl) ?_))
        refine (sSRv_is la dy mi e1 n1 fe fn fu ho ha ne lo hi st up A cp xs _ HM.out hO3.row (by omega) HX.out HY.out HZ.out HO.out).mono ?_; rintro e' w4 ⟨rfl, hw4⟩
        have hP4 := blk_next hP3 hw4
        have hU4 := blk_next hU3 hw4
        have hO4 := hO3.next hw4
        have hB4 := bel_next hB3 hw4
        have zPV := blk_lt hP4
        have zUV := blk_lt hU4
        have hV5 : (w4.alloc (.cells #[.int .i64 0, .int .i64 0, .int .i64 0] 38 (0, 0))).heap[w4.heap.size]? = some (.cells #[.int .i64 0, .int .i64 0, .int .i64 0] 38 (0, 0)) := by have := blk_new (w4) (.cells #[.int .i64 0, .int .i64 0, .int .i64 0] 38 (0, 0)); simpa using this
        have hP5 := blk_old hP4 (.cells #[.int .i64 0, .int .i64 0, .int .i64 0] 38 (0, 0))
        have hU5 := blk_old hU4 (.cells #[.int .i64 0, .int .i64 0, .int .i64 0] 38 (0, 0))
        have hB5 := hB4.alloc hB4.size (.cells #[.int .i64 0, .int .i64 0, .int .i64 0] 38 (0, 0))
        have hO5 := hO4.next (bel1 _ (.cells #[.int .i64 0, .int .i64 0, .int .i64 0] 38 (0, 0)))
        have zBV := hB4.size
        obtain ⟨cU5_0, cU5_1, cU5_2, fU5_0, fU5_1, fU5_2, zU5⟩ := blk3 hU5
        obtain ⟨cV5_0, cV5_1, cV5_2, fV5_0, fV5_1, fV5_2, zV5⟩ := blk3 hV5
        go_wp2_with (first | (refine wpList_load_row rfl 33 _ rfl _ rfl _ _ (0, 0) _ (by assumption) Try.underlying33 rfl (by kernel_rfl) ?_) | (refine wpList_load_rowG (by rfl) 33 _ rfl _ rfl _ _ (0, 0) _ (by assumption) Try.underlying33 rfl (by kernel_rfl) ?_))
        refine (sSV10_is la dy mi e1 n1 fe fn fu ho ha ne lo hi st up A cp xs _ HM.out hO5.row (by omega) HV.out).mono ?_; rintro e' w6 ⟨rfl, hw6⟩
        have hP6 := blk_next hP5 hw6
        have hU6 := blk_next hU5 hw6
        have hV6 := blk_next hV5 hw6
        have hO6 := hO5.next hw6
        have hB6 := bel_next hB5 hw6
        go_wp2_with (first | (refine wpList_load_row rfl 33 _ rfl _ rfl _ _ (0, 0) _ (by assumption) Try.underlying33 rfl (by kernel_rfl) ?_) | (refine wpList_load_rowG (by rfl) 33 _ rfl _ rfl _ _ (0, 0) _ (by assumption) Try.underlying33 rfl (by kernel_rfl) ?_))
        refine wp_region_held_drew (S := (fun w' => w'.heap[w1.heap.size]? = some (.cells #[.int .i64 la, .int .i64 dy, .int .i64 mi, .slice A m cp, .int .i64 e1, .int .i64 n1, .int .i64 fe, .int .i64 fn, .int .i64 fu, .int .i64 ho, .int .i64 ha, .int .i64 ne, .int .i64 lo, .int .i64 hi, .bool up, .int .i64 st] 33 (0, 0)) ∧ w'.heap[w2.heap.size]? = some (.cells #[.int .i64 0, .int .i64 0, .int .i64 0] 38 (0, 0)) ∧ w'.heap[w4.heap.size]? = some (.cells #[.int .i64 0, .int .i64 0, .int .i64 0] 38 (0, 0)) ∧ Below w.heap.size w w')) (by kernel_rfl) ⟨hP6, hU6, hV6, hB6.drew⟩ (fun hHeld => ?_)
        obtain ⟨hP_0, hU_0, hV_0, hB_0⟩ := id hHeld
        refine wpAnyH_take (i := 0) (oi := _) (v := ?_) rfl (by kernel_rfl) (by kernel_rfl) (by kernel_rfl) (fun _ _ _ h => h) (Or.inl ⟨by rfl, ?_⟩) (by assumption) ?_
        (rotate_left); (focus (intro wv hSw; (obtain ⟨qP, qU, qV, qB⟩ := hSw); obtain ⟨_, _, _, _, _, _, _, _, _, _, _, _, _, _, _, _, _, _, _, _, _, _, _, _, _, _, _, _, _, _, _, _, _⟩ := blk16 qP; obtain ⟨_, _, _, _, _, _, _⟩ := blk3 qU; obtain ⟨_, _, _, _, _, _, _⟩ := blk3 qV; go_simp; (try with_reducible rfl)))
        try simp only [Act.put, List.getElem_toArray, List.getElem_cons_succ, List.getElem_cons_zero, List.setIfInBounds_toArray, List.set_cons_zero, List.set_cons_succ]
        refine wpAnyH_take (i := 1) (oi := _) (v := ?_) rfl (by kernel_rfl) (by kernel_rfl) (by kernel_rfl) (fun _ _ _ h => h) (Or.inl ⟨by rfl, ?_⟩) (by assumption) ?_
        (rotate_left); (focus (intro wv hSw; (obtain ⟨qP, qU, qV, qB⟩ := hSw); obtain ⟨_, _, _, _, _, _, _, _, _, _, _, _, _, _, _, _, _, _, _, _, _, _, _, _, _, _, _, _, _, _, _, _, _⟩ := blk16 qP; obtain ⟨_, _, _, _, _, _, _⟩ := blk3 qU; obtain ⟨_, _, _, _, _, _, _⟩ := blk3 qV; go_simp; (try with_reducible rfl)))
        try simp only [Act.put, List.getElem_toArray, List.getElem_cons_succ, List.getElem_cons_zero, List.setIfInBounds_toArray, List.set_cons_zero, List.set_cons_succ]
        refine wpAnyH_take (i := 2) (oi := _) (v := ?_) rfl (by kernel_rfl) (by kernel_rfl) (by kernel_rfl) (fun _ _ _ h => h) (Or.inl ⟨by rfl, ?_⟩) (by assumption) ?_
        (rotate_left); (focus (intro wv hSw; (obtain ⟨qP, qU, qV, qB⟩ := hSw); obtain ⟨_, _, _, _, _, _, _, _, _, _, _, _, _, _, _, _, _, _, _, _, _, _, _, _, _, _, _, _, _, _, _, _, _⟩ := blk16 qP; obtain ⟨_, _, _, _, _, _, _⟩ := blk3 qU; obtain ⟨_, _, _, _, _, _, _⟩ := blk3 qV; go_simp; (try with_reducible rfl)))
        try simp only [Act.put, List.getElem_toArray, List.getElem_cons_succ, List.getElem_cons_zero, List.setIfInBounds_toArray, List.set_cons_zero, List.set_cons_succ]
        refine wpAnyH_take (i := 3) (oi := _) (v := ?_) rfl (by kernel_rfl) (by kernel_rfl) (by kernel_rfl) (fun _ _ _ h => h) (Or.inl ⟨by rfl, ?_⟩) (by assumption) ?_
        (rotate_left); (focus (intro wv hSw; (obtain ⟨qP, qU, qV, qB⟩ := hSw); obtain ⟨_, _, _, _, _, _, _, _, _, _, _, _, _, _, _, _, _, _, _, _, _, _, _, _, _, _, _, _, _, _, _, _, _⟩ := blk16 qP; obtain ⟨_, _, _, _, _, _, _⟩ := blk3 qU; obtain ⟨_, _, _, _, _, _, _⟩ := blk3 qV; go_simp; (try with_reducible rfl)))
        try simp only [Act.put, List.getElem_toArray, List.getElem_cons_succ, List.getElem_cons_zero, List.setIfInBounds_toArray, List.set_cons_zero, List.set_cons_succ]
        refine wpAnyH_take (i := 5) (oi := _) (v := ?_) rfl (by kernel_rfl) (by kernel_rfl) (by kernel_rfl) (fun _ _ _ h => h) (Or.inl ⟨by rfl, ?_⟩) (by assumption) ?_
        (rotate_left); (focus (intro wv hSw; (obtain ⟨qP, qU, qV, qB⟩ := hSw); obtain ⟨_, _, _, _, _, _, _, _, _, _, _, _, _, _, _, _, _, _, _, _, _, _, _, _, _, _, _, _, _, _, _, _, _⟩ := blk16 qP; obtain ⟨_, _, _, _, _, _, _⟩ := blk3 qU; obtain ⟨_, _, _, _, _, _, _⟩ := blk3 qV; go_simp; (try with_reducible rfl)))
        try simp only [Act.put, List.getElem_toArray, List.getElem_cons_succ, List.getElem_cons_zero, List.setIfInBounds_toArray, List.set_cons_zero, List.set_cons_succ]
        refine wpAnyH_take (i := 6) (oi := _) (v := ?_) rfl (by kernel_rfl) (by kernel_rfl) (by kernel_rfl) (fun _ _ _ h => h) (Or.inl ⟨by rfl, ?_⟩) (by assumption) ?_
        (rotate_left); (focus (intro wv hSw; (obtain ⟨qP, qU, qV, qB⟩ := hSw); obtain ⟨_, _, _, _, _, _, _, _, _, _, _, _, _, _, _, _, _, _, _, _, _, _, _, _, _, _, _, _, _, _, _, _, _⟩ := blk16 qP; obtain ⟨_, _, _, _, _, _, _⟩ := blk3 qU; obtain ⟨_, _, _, _, _, _, _⟩ := blk3 qV; go_simp; (try with_reducible rfl)))
        try simp only [Act.put, List.getElem_toArray, List.getElem_cons_succ, List.getElem_cons_zero, List.setIfInBounds_toArray, List.set_cons_zero, List.set_cons_succ]
        refine wpAnyH_ready (rs := [4]) (by kernel_rfl) (by simp) ?_
        refine AllReadyH.cons (o := _) rfl (fun K hK => ?_) (AllReadyH.nil)
        go_simp
        (go_at_call 13; refine (iTilt_bl _ HTL.out).mono ?_; rintro e x0c ⟨rfl, hw_0c⟩)
        refine hK.out _ _ ⟨blk_next hP_0 hw_0c, blk_next hU_0 hw_0c, blk_next hV_0 hw_0c, bel_next hB_0 hw_0c⟩ (fun hHeld => ?_)
        clear hK K
        try simp only [Act.put, List.getElem_toArray, List.getElem_cons_succ, List.getElem_cons_zero, List.setIfInBounds_toArray, List.set_cons_zero, List.set_cons_succ]
        obtain ⟨hP_0c, hU_0c, hV_0c, hB_0c⟩ := id hHeld
        refine wpAnyH_ready (rs := [7]) (by kernel_rfl) (by simp) ?_
        refine AllReadyH.cons (o := _) rfl (fun K hK => ?_) (AllReadyH.nil)
        go_simp
        (go_at_call 14; refine (iHA_bl _ HAN.out).mono ?_; rintro e x0cc ⟨rfl, hw_0cc⟩)
        refine hK.out _ _ ⟨blk_next hP_0c hw_0cc, blk_next hU_0c hw_0cc, blk_next hV_0c hw_0cc, bel_next hB_0c hw_0cc⟩ (fun hHeld => ?_)
        clear hK K
        try simp only [Act.put, List.getElem_toArray, List.getElem_cons_succ, List.getElem_cons_zero, List.setIfInBounds_toArray, List.set_cons_zero, List.set_cons_succ]
        obtain ⟨hP_0cc, hU_0cc, hV_0cc, hB_0cc⟩ := id hHeld
        refine wpAnyH_ready (rs := [8]) (by kernel_rfl) (by simp) ?_
        refine AllReadyH.cons (o := _) rfl (fun K hK => ?_) (AllReadyH.nil)
        go_simp
        (go_at_call 12; refine (iUp_is _ HQ9.out).mono ?_; rintro e x0ccc ⟨rfl, hw_0ccc⟩)
        refine hK.out _ _ ⟨blk_next hP_0cc hw_0ccc, blk_next hU_0cc hw_0ccc, blk_next hV_0cc hw_0ccc, bel_next hB_0cc hw_0ccc⟩ (fun hHeld => ?_)
        clear hK K
        try simp only [Act.put, List.getElem_toArray, List.getElem_cons_succ, List.getElem_cons_zero, List.setIfInBounds_toArray, List.set_cons_zero, List.set_cons_succ]
        obtain ⟨hP_0ccc, hU_0ccc, hV_0ccc, hB_0ccc⟩ := id hHeld
        refine wpAnyH_take (i := 9) (oi := _) (v := ?_) rfl (by kernel_rfl) (by kernel_rfl) (by kernel_rfl) (fun _ _ _ h => h) (Or.inl ⟨by rfl, ?_⟩) (by assumption) ?_
        (rotate_left); (focus (intro wv hSw; (obtain ⟨qP, qU, qV, qB⟩ := hSw); obtain ⟨_, _, _, _, _, _, _, _, _, _, _, _, _, _, _, _, _, _, _, _, _, _, _, _, _, _, _, _, _, _, _, _, _⟩ := blk16 qP; obtain ⟨_, _, _, _, _, _, _⟩ := blk3 qU; obtain ⟨_, _, _, _, _, _, _⟩ := blk3 qV; go_simp; (try with_reducible rfl)))
        try simp only [Act.put, List.getElem_toArray, List.getElem_cons_succ, List.getElem_cons_zero, List.setIfInBounds_toArray, List.set_cons_zero, List.set_cons_succ]
        refine wpAnyH_done (by kernel_rfl) ?_ _
        have hP7 := hP_0ccc
        have hU7 := hU_0ccc
        have hV7 := hV_0ccc
        have hB7 := hB_0ccc
        clear hP_0 hU_0 hV_0 hB_0 hP_0c hU_0c hV_0c hB_0c hP_0cc hU_0cc hV_0cc hB_0cc hP_0ccc hU_0ccc hV_0ccc hB_0ccc hHeld
        skip
        obtain ⟨cU7_0, cU7_1, cU7_2, fU7_0, fU7_1, fU7_2, zU7⟩ := blk3 hU7
        go_wp2_with (first | (refine wpList_load_row rfl 33 _ rfl _ rfl _ _ (0, 0) _ (by assumption) Try.underlying33 rfl (by kernel_rfl) ?_) | (refine wpList_load_rowG (by rfl) 33 _ rfl _ rfl _ _ (0, 0) _ (by assumption) Try.underlying33 rfl (by kernel_rfl) ?_))
        go_ret
        exact ⟨rfl, hB7⟩
      · have HO : Hid (srO la dy mi e1 n1 fe fn fu ho ha ne lo hi st xs = true) := Lib.hid (by unfold srO; rw [hv]; exact ho9)
        obtain ⟨x, hx9⟩ : ∃ v, ryE la dy mi = v := ⟨_, rfl⟩
        have HX : Hid (srE la dy mi e1 n1 fe fn fu ho ha ne lo hi st xs = x) := Lib.hid (by unfold srE; rw [if_pos hv]; exact hx9)
        obtain ⟨y, hy9⟩ : ∃ v, ryN la dy mi = v := ⟨_, rfl⟩
        have HY : Hid (srN la dy mi e1 n1 fe fn fu ho ha ne lo hi st xs = y) := Lib.hid (by unfold srN; rw [if_pos hv]; exact hy9)
        obtain ⟨z, hz9⟩ : ∃ v, ryU la dy mi = v := ⟨_, rfl⟩
        have HZ : Hid (srU la dy mi e1 n1 fe fn fu ho ha ne lo hi st xs = z) := Lib.hid (by unfold srU; rw [if_pos hv]; exact hz9)
        have HRV : Hid (ryB x y z = true) := Lib.hid (by rw [← hx9, ← hy9, ← hz9]; exact ry_valid ho9)
        clear hx9 hy9 hz9
        have hqs : 0 < q := by have h9 := ho9; simp only [ryO, decide_eq_true_eq] at h9; rw [hq] at h9; omega
        have hd9 : decide (0 < q) = true := decide_eq_true (by omega)
        have HV := Lib.hid hv
        clear hv hq ho9
        have hP1 : (w1.alloc (.cells #[.int .i64 la, .int .i64 dy, .int .i64 mi, .slice A m cp, .int .i64 e1, .int .i64 n1, .int .i64 fe, .int .i64 fn, .int .i64 fu, .int .i64 ho, .int .i64 ha, .int .i64 ne, .int .i64 lo, .int .i64 hi, .bool up, .int .i64 st] 33 (0, 0))).heap[w1.heap.size]? = some (.cells #[.int .i64 la, .int .i64 dy, .int .i64 mi, .slice A m cp, .int .i64 e1, .int .i64 n1, .int .i64 fe, .int .i64 fn, .int .i64 fu, .int .i64 ho, .int .i64 ha, .int .i64 ne, .int .i64 lo, .int .i64 hi, .bool up, .int .i64 st] 33 (0, 0)) := by have := blk_new (w1) (.cells #[.int .i64 la, .int .i64 dy, .int .i64 mi, .slice A m cp, .int .i64 e1, .int .i64 n1, .int .i64 fe, .int .i64 fn, .int .i64 fu, .int .i64 ho, .int .i64 ha, .int .i64 ne, .int .i64 lo, .int .i64 hi, .bool up, .int .i64 st] 33 (0, 0)); simpa using this
        have hB1 := hB0.alloc hB0.size (.cells #[.int .i64 la, .int .i64 dy, .int .i64 mi, .slice A m cp, .int .i64 e1, .int .i64 n1, .int .i64 fe, .int .i64 fn, .int .i64 fu, .int .i64 ho, .int .i64 ha, .int .i64 ne, .int .i64 lo, .int .i64 hi, .bool up, .int .i64 st] 33 (0, 0))
        have hO1 := hO0.next (bel1 _ (.cells #[.int .i64 la, .int .i64 dy, .int .i64 mi, .slice A m cp, .int .i64 e1, .int .i64 n1, .int .i64 fe, .int .i64 fn, .int .i64 fu, .int .i64 ho, .int .i64 ha, .int .i64 ne, .int .i64 lo, .int .i64 hi, .bool up, .int .i64 st] 33 (0, 0)))
        have zBP := hB0.size
        go_wp2_with (first | (refine wpList_load_row rfl 33 _ rfl _ rfl _ _ (0, 0) _ (by assumption) Try.underlying33 rfl (by kernel_rfl) ?_) | (refine wpList_load_rowG (by rfl) 33 _ rfl _ rfl _ _ (0, 0) _ (by assumption) Try.underlying33 rfl (by kernel_rfl) ?_))
        refine (iSRv_is la dy mi e1 n1 fe fn fu ho ha ne lo hi st up A cp xs _ HM.out hO1.row (by omega) HX.out HY.out HZ.out HO.out).mono ?_; rintro e' w2 ⟨rfl, hw2⟩
        have hP2 := blk_next hP1 hw2
        have hO2 := hO1.next hw2
        have hB2 := bel_next hB1 hw2
        have zPU := blk_lt hP2
        have hU3 : (w2.alloc (.cells #[.int .i64 x, .int .i64 y, .int .i64 z] 38 (0, 0))).heap[w2.heap.size]? = some (.cells #[.int .i64 x, .int .i64 y, .int .i64 z] 38 (0, 0)) := by have := blk_new (w2) (.cells #[.int .i64 x, .int .i64 y, .int .i64 z] 38 (0, 0)); simpa using this
        have hP3 := blk_old hP2 (.cells #[.int .i64 x, .int .i64 y, .int .i64 z] 38 (0, 0))
        have hB3 := hB2.alloc hB2.size (.cells #[.int .i64 x, .int .i64 y, .int .i64 z] 38 (0, 0))
        have hO3 := hO2.next (bel1 _ (.cells #[.int .i64 x, .int .i64 y, .int .i64 z] 38 (0, 0)))
        have zBU := hB2.size
        go_wp2_with (first | (refine wpList_load_row rfl 33 _ rfl _ rfl _ _ (0, 0) _ (by assumption) Try.underlying33 rfl (by kernel_rfl) ?_) | (refine wpList_load_rowG (by rfl) 33 _ rfl _ rfl _ _ (0, 0) _ (by assumption) Try.underlying33 rfl (by kernel_rfl) ?_))
        refine (sSRv_is la dy mi e1 n1 fe fn fu ho ha ne lo hi st up A cp xs _ HM.out hO3.row (by omega) HX.out HY.out HZ.out HO.out).mono ?_; rintro e' w4 ⟨rfl, hw4⟩
        have hP4 := blk_next hP3 hw4
        have hU4 := blk_next hU3 hw4
        have hO4 := hO3.next hw4
        have hB4 := bel_next hB3 hw4
        have zPV := blk_lt hP4
        have zUV := blk_lt hU4
        have hV5 : (w4.alloc (.cells #[.int .i64 x, .int .i64 y, .int .i64 z] 38 (0, 0))).heap[w4.heap.size]? = some (.cells #[.int .i64 x, .int .i64 y, .int .i64 z] 38 (0, 0)) := by have := blk_new (w4) (.cells #[.int .i64 x, .int .i64 y, .int .i64 z] 38 (0, 0)); simpa using this
        have hP5 := blk_old hP4 (.cells #[.int .i64 x, .int .i64 y, .int .i64 z] 38 (0, 0))
        have hU5 := blk_old hU4 (.cells #[.int .i64 x, .int .i64 y, .int .i64 z] 38 (0, 0))
        have hB5 := hB4.alloc hB4.size (.cells #[.int .i64 x, .int .i64 y, .int .i64 z] 38 (0, 0))
        have hO5 := hO4.next (bel1 _ (.cells #[.int .i64 x, .int .i64 y, .int .i64 z] 38 (0, 0)))
        have zBV := hB4.size
        obtain ⟨cU5_0, cU5_1, cU5_2, fU5_0, fU5_1, fU5_2, zU5⟩ := blk3 hU5
        obtain ⟨cV5_0, cV5_1, cV5_2, fV5_0, fV5_1, fV5_2, zV5⟩ := blk3 hV5
        go_wp2_with (first | (refine wpList_load_row rfl 33 _ rfl _ rfl _ _ (0, 0) _ (by assumption) Try.underlying33 rfl (by kernel_rfl) ?_) | (refine wpList_load_rowG (by rfl) 33 _ rfl _ rfl _ _ (0, 0) _ (by assumption) Try.underlying33 rfl (by kernel_rfl) ?_))
        refine (sSV10_is la dy mi e1 n1 fe fn fu ho ha ne lo hi st up A cp xs _ HM.out hO5.row (by omega) HV.out).mono ?_; rintro e' w6 ⟨rfl, hw6⟩
        have hP6 := blk_next hP5 hw6
        have hU6 := blk_next hU5 hw6
        have hV6 := blk_next hV5 hw6
        have hO6 := hO5.next hw6
        have hB6 := bel_next hB5 hw6
        go_wp2_with (first | (refine wpList_load_row rfl 33 _ rfl _ rfl _ _ (0, 0) _ (by assumption) Try.underlying33 rfl (by kernel_rfl) ?_) | (refine wpList_load_rowG (by rfl) 33 _ rfl _ rfl _ _ (0, 0) _ (by assumption) Try.underlying33 rfl (by kernel_rfl) ?_))
        refine wp_region_held_drew (S := (fun w' => w'.heap[w1.heap.size]? = some (.cells #[.int .i64 la, .int .i64 dy, .int .i64 mi, .slice A m cp, .int .i64 e1, .int .i64 n1, .int .i64 fe, .int .i64 fn, .int .i64 fu, .int .i64 ho, .int .i64 ha, .int .i64 ne, .int .i64 lo, .int .i64 hi, .bool up, .int .i64 st] 33 (0, 0)) ∧ w'.heap[w2.heap.size]? = some (.cells #[.int .i64 x, .int .i64 y, .int .i64 z] 38 (0, 0)) ∧ w'.heap[w4.heap.size]? = some (.cells #[.int .i64 x, .int .i64 y, .int .i64 z] 38 (0, 0)) ∧ Below w.heap.size w w')) (by kernel_rfl) ⟨hP6, hU6, hV6, hB6.drew⟩ (fun hHeld => ?_)
        obtain ⟨hP_0, hU_0, hV_0, hB_0⟩ := id hHeld
        refine wpAnyH_take (i := 0) (oi := _) (v := ?_) rfl (by kernel_rfl) (by kernel_rfl) (by kernel_rfl) (fun _ _ _ h => h) (Or.inl ⟨by rfl, ?_⟩) (by assumption) ?_
        (rotate_left); (focus (intro wv hSw; (obtain ⟨qP, qU, qV, qB⟩ := hSw); obtain ⟨_, _, _, _, _, _, _, _, _, _, _, _, _, _, _, _, _, _, _, _, _, _, _, _, _, _, _, _, _, _, _, _, _⟩ := blk16 qP; obtain ⟨_, _, _, _, _, _, _⟩ := blk3 qU; obtain ⟨_, _, _, _, _, _, _⟩ := blk3 qV; go_simp; (try with_reducible rfl)))
        try simp only [Act.put, List.getElem_toArray, List.getElem_cons_succ, List.getElem_cons_zero, List.setIfInBounds_toArray, List.set_cons_zero, List.set_cons_succ]
        refine wpAnyH_take (i := 1) (oi := _) (v := ?_) rfl (by kernel_rfl) (by kernel_rfl) (by kernel_rfl) (fun _ _ _ h => h) (Or.inl ⟨by rfl, ?_⟩) (by assumption) ?_
        (rotate_left); (focus (intro wv hSw; (obtain ⟨qP, qU, qV, qB⟩ := hSw); obtain ⟨_, _, _, _, _, _, _, _, _, _, _, _, _, _, _, _, _, _, _, _, _, _, _, _, _, _, _, _, _, _, _, _, _⟩ := blk16 qP; obtain ⟨_, _, _, _, _, _, _⟩ := blk3 qU; obtain ⟨_, _, _, _, _, _, _⟩ := blk3 qV; go_simp; (try with_reducible rfl)))
        try simp only [Act.put, List.getElem_toArray, List.getElem_cons_succ, List.getElem_cons_zero, List.setIfInBounds_toArray, List.set_cons_zero, List.set_cons_succ]
        refine wpAnyH_take (i := 2) (oi := _) (v := ?_) rfl (by kernel_rfl) (by kernel_rfl) (by kernel_rfl) (fun _ _ _ h => h) (Or.inl ⟨by rfl, ?_⟩) (by assumption) ?_
        (rotate_left); (focus (intro wv hSw; (obtain ⟨qP, qU, qV, qB⟩ := hSw); obtain ⟨_, _, _, _, _, _, _, _, _, _, _, _, _, _, _, _, _, _, _, _, _, _, _, _, _, _, _, _, _, _, _, _, _⟩ := blk16 qP; obtain ⟨_, _, _, _, _, _, _⟩ := blk3 qU; obtain ⟨_, _, _, _, _, _, _⟩ := blk3 qV; go_simp; (try with_reducible rfl)))
        try simp only [Act.put, List.getElem_toArray, List.getElem_cons_succ, List.getElem_cons_zero, List.setIfInBounds_toArray, List.set_cons_zero, List.set_cons_succ]
        refine wpAnyH_take (i := 3) (oi := _) (v := ?_) rfl (by kernel_rfl) (by kernel_rfl) (by kernel_rfl) (fun _ _ _ h => h) (Or.inl ⟨by rfl, ?_⟩) (by assumption) ?_
        (rotate_left); (focus (intro wv hSw; (obtain ⟨qP, qU, qV, qB⟩ := hSw); obtain ⟨_, _, _, _, _, _, _, _, _, _, _, _, _, _, _, _, _, _, _, _, _, _, _, _, _, _, _, _, _, _, _, _, _⟩ := blk16 qP; obtain ⟨_, _, _, _, _, _, _⟩ := blk3 qU; obtain ⟨_, _, _, _, _, _, _⟩ := blk3 qV; go_simp; (try with_reducible rfl)))
        try simp only [Act.put, List.getElem_toArray, List.getElem_cons_succ, List.getElem_cons_zero, List.setIfInBounds_toArray, List.set_cons_zero, List.set_cons_succ]
        refine wpAnyH_take (i := 5) (oi := _) (v := ?_) rfl (by kernel_rfl) (by kernel_rfl) (by kernel_rfl) (fun _ _ _ h => h) (Or.inl ⟨by rfl, ?_⟩) (by assumption) ?_
        (rotate_left); (focus (intro wv hSw; (obtain ⟨qP, qU, qV, qB⟩ := hSw); obtain ⟨_, _, _, _, _, _, _, _, _, _, _, _, _, _, _, _, _, _, _, _, _, _, _, _, _, _, _, _, _, _, _, _, _⟩ := blk16 qP; obtain ⟨_, _, _, _, _, _, _⟩ := blk3 qU; obtain ⟨_, _, _, _, _, _, _⟩ := blk3 qV; go_simp; (try with_reducible rfl)))
        try simp only [Act.put, List.getElem_toArray, List.getElem_cons_succ, List.getElem_cons_zero, List.setIfInBounds_toArray, List.set_cons_zero, List.set_cons_succ]
        refine wpAnyH_take (i := 6) (oi := _) (v := ?_) rfl (by kernel_rfl) (by kernel_rfl) (by kernel_rfl) (fun _ _ _ h => h) (Or.inl ⟨by rfl, ?_⟩) (by assumption) ?_
        (rotate_left); (focus (intro wv hSw; (obtain ⟨qP, qU, qV, qB⟩ := hSw); obtain ⟨_, _, _, _, _, _, _, _, _, _, _, _, _, _, _, _, _, _, _, _, _, _, _, _, _, _, _, _, _, _, _, _, _⟩ := blk16 qP; obtain ⟨_, _, _, _, _, _, _⟩ := blk3 qU; obtain ⟨_, _, _, _, _, _, _⟩ := blk3 qV; go_simp; (try with_reducible rfl)))
        try simp only [Act.put, List.getElem_toArray, List.getElem_cons_succ, List.getElem_cons_zero, List.setIfInBounds_toArray, List.set_cons_zero, List.set_cons_succ]
        refine wpAnyH_ready (rs := [4]) (by kernel_rfl) (by simp) ?_
        refine AllReadyH.cons (o := _) rfl (fun K hK => ?_) (AllReadyH.nil)
        go_simp
        (go_at_call 13; refine (iTilt_bl _ HTL.out).mono ?_; rintro e x0c ⟨rfl, hw_0c⟩)
        refine hK.out _ _ ⟨blk_next hP_0 hw_0c, blk_next hU_0 hw_0c, blk_next hV_0 hw_0c, bel_next hB_0 hw_0c⟩ (fun hHeld => ?_)
        clear hK K
        try simp only [Act.put, List.getElem_toArray, List.getElem_cons_succ, List.getElem_cons_zero, List.setIfInBounds_toArray, List.set_cons_zero, List.set_cons_succ]
        obtain ⟨hP_0c, hU_0c, hV_0c, hB_0c⟩ := id hHeld
        refine wpAnyH_ready (rs := [7]) (by kernel_rfl) (by simp) ?_
        refine AllReadyH.cons (o := _) rfl (fun K hK => ?_) (AllReadyH.nil)
        go_simp
        (go_at_call 14; refine (iHA_bl _ HAN.out).mono ?_; rintro e x0cc ⟨rfl, hw_0cc⟩)
        refine hK.out _ _ ⟨blk_next hP_0c hw_0cc, blk_next hU_0c hw_0cc, blk_next hV_0c hw_0cc, bel_next hB_0c hw_0cc⟩ (fun hHeld => ?_)
        clear hK K
        try simp only [Act.put, List.getElem_toArray, List.getElem_cons_succ, List.getElem_cons_zero, List.setIfInBounds_toArray, List.set_cons_zero, List.set_cons_succ]
        obtain ⟨hP_0cc, hU_0cc, hV_0cc, hB_0cc⟩ := id hHeld
        refine wpAnyH_ready (rs := [8]) (by kernel_rfl) (by simp) ?_
        refine AllReadyH.cons (o := _) rfl (fun K hK => ?_) (AllReadyH.nil)
        go_simp
        (go_at_call 12; refine (iUp_is _ HQ9.out).mono ?_; rintro e x0ccc ⟨rfl, hw_0ccc⟩)
        refine hK.out _ _ ⟨blk_next hP_0cc hw_0ccc, blk_next hU_0cc hw_0ccc, blk_next hV_0cc hw_0ccc, bel_next hB_0cc hw_0ccc⟩ (fun hHeld => ?_)
        clear hK K
        try simp only [Act.put, List.getElem_toArray, List.getElem_cons_succ, List.getElem_cons_zero, List.setIfInBounds_toArray, List.set_cons_zero, List.set_cons_succ]
        obtain ⟨hP_0ccc, hU_0ccc, hV_0ccc, hB_0ccc⟩ := id hHeld
        refine wpAnyH_take (i := 9) (oi := _) (v := ?_) rfl (by kernel_rfl) (by kernel_rfl) (by kernel_rfl) (fun _ _ _ h => h) (Or.inl ⟨by rfl, ?_⟩) (by assumption) ?_
        (rotate_left); (focus (intro wv hSw; (obtain ⟨qP, qU, qV, qB⟩ := hSw); obtain ⟨_, _, _, _, _, _, _, _, _, _, _, _, _, _, _, _, _, _, _, _, _, _, _, _, _, _, _, _, _, _, _, _, _⟩ := blk16 qP; obtain ⟨_, _, _, _, _, _, _⟩ := blk3 qU; obtain ⟨_, _, _, _, _, _, _⟩ := blk3 qV; go_simp; (try with_reducible rfl)))
        try simp only [Act.put, List.getElem_toArray, List.getElem_cons_succ, List.getElem_cons_zero, List.setIfInBounds_toArray, List.set_cons_zero, List.set_cons_succ]
        refine wpAnyH_done (by kernel_rfl) ?_ _
        have hP7 := hP_0ccc
        have hU7 := hU_0ccc
        have hV7 := hV_0ccc
        have hB7 := hB_0ccc
        clear hP_0 hU_0 hV_0 hB_0 hP_0c hU_0c hV_0c hB_0c hP_0cc hU_0cc hV_0cc hB_0cc hP_0ccc hU_0ccc hV_0ccc hB_0ccc hHeld
        skip
        obtain ⟨cU7_0, cU7_1, cU7_2, fU7_0, fU7_1, fU7_2, zU7⟩ := blk3 hU7
        go_wp2_with (first | (refine wpList_load_row rfl 33 _ rfl _ rfl _ _ (0, 0) _ (by assumption) Try.underlying33 rfl (by kernel_rfl) ?_) | (refine wpList_load_rowG (by rfl) 33 _ rfl _ rfl _ _ (0, 0) _ (by assumption) Try.underlying33 rfl (by kernel_rfl) ?_))
        refine (iRV_is _ HRV.out).mono ?_; rintro e' w8 ⟨rfl, hw8⟩
        have hP8 := blk_next hP7 hw8
        have hU8 := blk_next hU7 hw8
        have hV8 := blk_next hV7 hw8
        have hB8 := bel_next hB7 hw8
        obtain ⟨cU8_0, cU8_1, cU8_2, fU8_0, fU8_1, fU8_2, zU8⟩ := blk3 hU8
        go_wp2_with (first | (refine wpList_load_row rfl 33 _ rfl _ rfl _ _ (0, 0) _ (by assumption) Try.underlying33 rfl (by kernel_rfl) ?_) | (refine wpList_load_rowG (by rfl) 33 _ rfl _ rfl _ _ (0, 0) _ (by assumption) Try.underlying33 rfl (by kernel_rfl) ?_))
        go_ret
        exact ⟨rfl, hB8⟩
set_option maxRecDepth 100000 in
theorem lifted (os : Os) (started : os.Started) (H : Type) (enc : TypeId × Value → H) :
    ReturnsInHanded {} Try.checked os 4 .any (Rows.fnSiteRaySpec.pre6 enc Try.prog Try.f4 Rows.fnSiteRayRow.domain false) (Rows.fnSiteRaySpec.post enc Try.prog Try.f4 false true false false) := by
  refine returnsInHanded_of_change (C := Try.checked) own started (by kernel_rfl) Try.func4
    (ChangeSpec.witness6 (enc := enc) (C := Try.checked) false ⟨#[], #[.slice none 0 0], []⟩ 8 (by kernel_rfl) (by kernel_rfl) (by kernel_rfl) (by kernel_rfl)) ?_
  intro W base args ds gs before hval0 hW hcnd _
  have hval : ∀ (j : Nat) t v, Try.f4.params[j]? = some t → args[j]? = some v → Value.okWide Try.prog W .any base t v := hval0
  have hW' := hW
  obtain ⟨p, q, hA0, hV, rfl, hfz, hnd⟩ := hW
  have hA : DataW.TrodAll enc Try.prog W 0 (fun _ => true) true Try.f4.params.toList args.toList ds p := hA0
  rw [Try.params4] at hA hval
  obtain ⟨v0, vs0, d0, ds0, p0, q0, hargs, rfl, rfl, h0, r0⟩ := trodAll_cons hA
  obtain ⟨rfl, rfl, rfl⟩ := trodAll_nil r0
  obtain rfl : args = #[v0] := by cases args; simp_all
  obtain ⟨rfl, rfl⟩ := trodVars_none hV
  have k0 := h0
  have lt0 : ∀ x ∈ p0, x.block < W.heap.size := by obtain ⟨m, hm⟩ := k0; exact DataW.trod_lt m _ _ _ hm
  obtain ⟨a0, len0, cap0, rfl⟩ := okWide_slice Try.underlying22 (hval 0 22 v0 rfl rfl)
  have w0 : CodeOk W a0 len0 cap0 := by
    obtain ⟨fuel, hf⟩ := h0
    rcases open_ints Try.underlying22 Try.underlying5 (by kernel_rfl) hf with ⟨hcs, _⟩ | ⟨x, l, c, zs, hcs, _, hl, hm, hz, _, hcell, hwz⟩
    · simp [Value.cells] at hcs
      obtain ⟨rfl, rfl, rfl⟩ := hcs
      exact code_nil W
    · simp [Value.cells] at hcs
      obtain ⟨rfl, rfl, rfl⟩ := hcs
      exact code_ok hl hm (by simp at hz; omega) hcell hwz
  clear hA0 hval0
  refine (walk W a0 len0 cap0 w0).mono fun e W' ⟨he, bel⟩ => ?_
  subst he
  exact ⟨_, rfl, _, _, _, [], _, [], hW', trodAll_mk1 (shut_bool Try.underlying4 _), (trodAll_cons_mk (Below.trod laidOut (by kernel_rfl) (of_decide_eq_true (by kernel_rfl)) k0 bel lt0) trodAll_mk0), rfl, bel.frame _, fun h => by cases h⟩
theorem over : Rows.fnSiteRayRow.holds Try.pinned (OpenSpec.ofChange Rows.fnSiteRaySpec) :=
  OpenClaim.holds_of_wide 4 Try.f4 rfl rfl rfl rfl rfl rfl rfl ⟨rfl, rfl, rfl, rfl, rfl⟩ rfl rfl rfl rfl rfl (by kernel_rfl) Try.func4 (by kernel_rfl)
    (of_decide_eq_true (by kernel_rfl)) (by unfold Func.isWrapper; first | (rw [if_pos (by decide +kernel)]; kernel_rfl) | (rw [if_neg (by decide +kernel)]; exact ⟨rfl, rfl⟩))
    (fun os started H enc _ => lifted os started H enc)
/-- The statement. -/
theorem proved : Rows.FnSiteRaySaid :=
  over
#print axioms proved
end Go.Proofs.Ytbklgpghonigjaa.fnSiteRay
