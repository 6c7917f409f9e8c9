/- FnSiteTicks: whatever the input, the law returns true, and its arguments read as they did. No conditions beyond those of the statement's row. -/
import Derived.Laws.Rows
import Derived.Test.YtbklgpghonigjaaGreatMEr
import Derived.Test.YtbklgpghonigjaaGreatMEp
import Derived.Test.YtbklgpghonigjaaGreatMQM
import Derived.Test.YtbklgpghonigjaaGreatMQH
import Derived.Test.YtbklgpghonigjaaGreatMQN
namespace Go.Proofs.YtbklgpghonigjaaGreat.fnSiteTicks
open Go.Proofs.YtbklgpghonigjaaGreat
open Go Go.RowKit
open Go.ChangeShapes Go.WideShapes Go.ChangeAt Go.RowKit Go.Joins
set_option linter.unusedVariables false
set_option linter.unusedSimpArgs false
set_option linter.unnecessarySimpa false
theorem own : ownKnob Tryz.prog.godebug = none := by kernel_rfl
theorem laidOut : laidOutB Tryz.prog = true := by kernel_rfl
set_option maxRecDepth 100000 in
set_option maxHeartbeats 40000000 in
theorem walk (w : World) (a0 : Option Addr) (len0 cap0 : Nat) (w0 : CodeOk w a0 len0 cap0) :
    Calls Tryz.prog 6 #[.slice a0 len0 cap0] w fun e w' => e = .returned (.bool true) ∧ Below w.heap.size w w' := by
  by_cases hl : 1048576 < len0
  · have w0' := w0.2.1
    unfold maxLen at w0'
    clear w0
    go_enter Tryz.func6, Tryz.ntmps6
    go_wp2_with (first | (refine wpList_load_row rfl 33 _ rfl _ rfl _ _ (0, 0) _ (by assumption) Tryz.underlying33 rfl (by kernel_rfl) ?_) | (refine wpList_load_rowG (by rfl) 33 _ rfl _ rfl _ _ (0, 0) _ (by assumption) Tryz.underlying33 rfl (by kernel_rfl) ?_))
    go_ret
    exact ⟨rfl, Below.refl _ _⟩
  · have w0' := w0.2.1
    unfold maxLen at w0'
    have hle := w0.1
    have HW := Lib.hid w0
    clear w0
    go_enter Tryz.func6, Tryz.ntmps6
    go_wp2_with (first | (refine wpList_load_row rfl 33 _ rfl _ rfl _ _ (0, 0) _ (by assumption) Tryz.underlying33 rfl (by kernel_rfl) ?_) | (refine wpList_load_rowG (by rfl) 33 _ rfl _ rfl _ _ (0, 0) _ (by assumption) Tryz.underlying33 rfl (by kernel_rfl) ?_))
    refine (drSiteTicks_any _ _ _ _ HW.out).mono ?_; rintro e w1 ⟨la, dy, mi, e1, n1, fe, fn, fu, ho, ha, ne, lo, hi, st, up, xs, A, cp, mq, rfl, ⟨mq0, mq1⟩, hho, hx6, hO0, hB0⟩
    obtain ⟨m, hm⟩ : ∃ m, xs.length = m := ⟨_, rfl⟩
    rw [hm] at hx6 ⊢
    have HM := Lib.hid hm
    clear hm
    have hm2 : m ≤ 2000000 := by omega
    cases hv : siB la dy mi e1 n1 fe fn fu ho ha ne lo hi st xs
    · as_aux_lemma =>
        have HT : Hid (siT la dy mi e1 n1 fe fn fu ho ha ne lo hi st up xs mq = siZ) := Lib.hid (siT_no (.inl hv))
        have HV := Lib.hid hv
        clear hv
        have hP1 : (w1.alloc (.cells #[.int .i64 la, .int .i64 dy, .int .i64 mi, .slice A m cp, .int .i64 e1, .int .i64 n1, .int .i64 fe, .int .i64 fn, .int .i64 fu, .int .i64 ho, .int .i64 ha, .int .i64 ne, .int .i64 lo, .int .i64 hi, .bool up, .int .i64 st] 33 (0, 0))).heap[w1.heap.size]? = some (.cells #[.int .i64 la, .int .i64 dy, .int .i64 mi, .slice A m cp, .int .i64 e1, .int .i64 n1, .int .i64 fe, .int .i64 fn, .int .i64 fu, .int .i64 ho, .int .i64 ha, .int .i64 ne, .int .i64 lo, .int .i64 hi, .bool up, .int .i64 st] 33 (0, 0)) := by have := blk_new (w1) (.cells #[.int .i64 la, .int .i64 dy, .int .i64 mi, .slice A m cp, .int .i64 e1, .int .i64 n1, .int .i64 fe, .int .i64 fn, .int .i64 fu, .int .i64 ho, .int .i64 ha, .int .i64 ne, .int .i64 lo, .int .i64 hi, .bool up, .int .i64 st] 33 (0, 0)); simpa using this
        have hB1 := hB0.alloc hB0.size (.cells #[.int .i64 la, .int .i64 dy, .int .i64 mi, .slice A m cp, .int .i64 e1, .int .i64 n1, .int .i64 fe, .int .i64 fn, .int .i64 fu, .int .i64 ho, .int .i64 ha, .int .i64 ne, .int .i64 lo, .int .i64 hi, .bool up, .int .i64 st] 33 (0, 0))
        have hO1 := hO0.next (bel1 _ (.cells #[.int .i64 la, .int .i64 dy, .int .i64 mi, .slice A m cp, .int .i64 e1, .int .i64 n1, .int .i64 fe, .int .i64 fn, .int .i64 fu, .int .i64 ho, .int .i64 ha, .int .i64 ne, .int .i64 lo, .int .i64 hi, .bool up, .int .i64 st] 33 (0, 0)))
        have zBP := hB0.size
        go_wp2_with (first | (refine wpList_load_row rfl 33 _ rfl _ rfl _ _ (0, 0) _ (by assumption) Tryz.underlying33 rfl (by kernel_rfl) ?_) | (refine wpList_load_rowG (by rfl) 33 _ rfl _ rfl _ _ (0, 0) _ (by assumption) Tryz.underlying33 rfl (by kernel_rfl) ?_))
        refine (iSTs_is la dy mi e1 n1 fe fn fu ho ha ne lo hi st up A cp xs _ HM.out hO1.row hm2 HT.out).mono ?_; rintro e' w2 ⟨A2, cp2, rfl, hY2, hw2⟩
        have hP2 := blk_next hP1 hw2
        have hO2 := hO1.next hw2
        have hB2 := bel_next hB1 hw2
        have hY2 := hY2.mono (base' := w.heap.size) hB1.size
        simp only [List.length_nil]
        have zPX := blk_lt hP2
        have hX3 : (w2.alloc (.cells #[.int .i64 0, .int .i64 0, .int .i64 0, .slice A2 0 cp2, .int .i64 0, .int .i64 0, .int .i64 0, .int .i64 0, .int .i64 0, .int .i64 0, .int .i64 0, .int .i64 0, .int .i64 0, .int .i64 0, .bool false, .int .i64 0] 33 (0, 0))).heap[w2.heap.size]? = some (.cells #[.int .i64 0, .int .i64 0, .int .i64 0, .slice A2 0 cp2, .int .i64 0, .int .i64 0, .int .i64 0, .int .i64 0, .int .i64 0, .int .i64 0, .int .i64 0, .int .i64 0, .int .i64 0, .int .i64 0, .bool false, .int .i64 0] 33 (0, 0)) := by have := blk_new (w2) (.cells #[.int .i64 0, .int .i64 0, .int .i64 0, .slice A2 0 cp2, .int .i64 0, .int .i64 0, .int .i64 0, .int .i64 0, .int .i64 0, .int .i64 0, .int .i64 0, .int .i64 0, .int .i64 0, .int .i64 0, .bool false, .int .i64 0] 33 (0, 0)); simpa using this
        have hP3 := blk_old hP2 (.cells #[.int .i64 0, .int .i64 0, .int .i64 0, .slice A2 0 cp2, .int .i64 0, .int .i64 0, .int .i64 0, .int .i64 0, .int .i64 0, .int .i64 0, .int .i64 0, .int .i64 0, .int .i64 0, .int .i64 0, .bool false, .int .i64 0] 33 (0, 0))
        have hB3 := hB2.alloc hB2.size (.cells #[.int .i64 0, .int .i64 0, .int .i64 0, .slice A2 0 cp2, .int .i64 0, .int .i64 0, .int .i64 0, .int .i64 0, .int .i64 0, .int .i64 0, .int .i64 0, .int .i64 0, .int .i64 0, .int .i64 0, .bool false, .int .i64 0] 33 (0, 0))
        have hO3 := hO2.next (bel1 _ (.cells #[.int .i64 0, .int .i64 0, .int .i64 0, .slice A2 0 cp2, .int .i64 0, .int .i64 0, .int .i64 0, .int .i64 0, .int .i64 0, .int .i64 0, .int .i64 0, .int .i64 0, .int .i64 0, .int .i64 0, .bool false, .int .i64 0] 33 (0, 0)))
        have hY3 := hY2.next (bel1 _ (.cells #[.int .i64 0, .int .i64 0, .int .i64 0, .slice A2 0 cp2, .int .i64 0, .int .i64 0, .int .i64 0, .int .i64 0, .int .i64 0, .int .i64 0, .int .i64 0, .int .i64 0, .int .i64 0, .int .i64 0, .bool false, .int .i64 0] 33 (0, 0)))
        have zBX := hB2.size
        go_wp2_with (first | (refine wpList_load_row rfl 33 _ rfl _ rfl _ _ (0, 0) _ (by assumption) Tryz.underlying33 rfl (by kernel_rfl) ?_) | (refine wpList_load_rowG (by rfl) 33 _ rfl _ rfl _ _ (0, 0) _ (by assumption) Tryz.underlying33 rfl (by kernel_rfl) ?_))
        refine wp_region_held_drew (S := (fun w' => w'.heap[w1.heap.size]? = some (.cells #[.int .i64 la, .int .i64 dy, .int .i64 mi, .slice A m cp, .int .i64 e1, .int .i64 n1, .int .i64 fe, .int .i64 fn, .int .i64 fu, .int .i64 ho, .int .i64 ha, .int .i64 ne, .int .i64 lo, .int .i64 hi, .bool up, .int .i64 st] 33 (0, 0)) ∧ w'.heap[w2.heap.size]? = some (.cells #[.int .i64 0, .int .i64 0, .int .i64 0, .slice A2 0 cp2, .int .i64 0, .int .i64 0, .int .i64 0, .int .i64 0, .int .i64 0, .int .i64 0, .int .i64 0, .int .i64 0, .int .i64 0, .int .i64 0, .bool false, .int .i64 0] 33 (0, 0)) ∧ SOwn encBlock w' w.heap.size 40 A cp xs ∧ SOwn encBlock w' w.heap.size 40 A2 cp2 [] ∧ Below w.heap.size w w')) (by kernel_rfl) ⟨hP3, hX3, hO3.drew, hY3.drew, hB3.drew⟩ (fun hHeld => ?_)
        obtain ⟨hP_0, hX_0, hO_0, hY_0, hB_0⟩ := id hHeld
        refine wpAnyH_take (i := 0) (oi := _) (v := ?_) rfl (by kernel_rfl) (by kernel_rfl) (by kernel_rfl) (fun _ _ _ h => h) (Or.inl ⟨by rfl, ?_⟩) (by assumption) ?_
        (rotate_left); (focus (intro wv hSw; (obtain ⟨qP, qX, qO, qY, qB⟩ := hSw); refine run_load_row9 33 ?x9_1 ?h9_1 _ ?e9_1 _ _ (0, 0) _ qX Tryz.underlying33 rfl (by kernel_rfl); (case h9_1 => rfl); (case e9_1 => rfl)))
        try simp only [Act.put, List.getElem_toArray, List.getElem_cons_succ, List.getElem_cons_zero, List.setIfInBounds_toArray, List.set_cons_zero, List.set_cons_succ]
        refine wpAnyH_take (i := 1) (oi := _) (v := ?_) rfl (by kernel_rfl) (by kernel_rfl) (by kernel_rfl) (fun _ _ _ h => h) (Or.inl ⟨by rfl, ?_⟩) (by assumption) ?_
        (rotate_left); (focus (intro wv hSw; (obtain ⟨qP, qX, qO, qY, qB⟩ := hSw); refine run_load_row9 33 ?x9_2 ?h9_2 _ ?e9_2 _ _ (0, 0) _ qP Tryz.underlying33 rfl (by kernel_rfl); (case h9_2 => rfl); (case e9_2 => rfl)))
        try simp only [Act.put, List.getElem_toArray, List.getElem_cons_succ, List.getElem_cons_zero, List.setIfInBounds_toArray, List.set_cons_zero, List.set_cons_succ]
        refine wpAnyH_take (i := 2) (oi := _) (v := ?_) rfl (by kernel_rfl) (by kernel_rfl) (by kernel_rfl) (fun _ _ _ h => h) (Or.inl ⟨by rfl, ?_⟩) (by assumption) ?_
        (rotate_left); (focus (intro wv hSw; (obtain ⟨qP, qX, qO, qY, qB⟩ := hSw);  go_simp; (try with_reducible rfl)))
        try simp only [Act.put, List.getElem_toArray, List.getElem_cons_succ, List.getElem_cons_zero, List.setIfInBounds_toArray, List.set_cons_zero, List.set_cons_succ]
        refine wpAnyH_ready (rs := [3]) (by kernel_rfl) (by simp) ?_
        refine AllReadyH.cons (o := _) rfl (fun K hK => ?_) AllReadyH.nil
        go_simp
        (go_at_call 32; refine (sSTs_is la dy mi e1 n1 fe fn fu ho ha ne lo hi st up A cp xs _ HM.out hO_0.row hm2 HT.out).mono ?_; rintro e x0c ⟨A3, cp3, rfl, hT_0c, hw_0c⟩)
        refine hK.out _ _ ⟨blk_next hP_0 hw_0c, blk_next hX_0 hw_0c, hO_0.next hw_0c, hY_0.next hw_0c, bel_next hB_0 hw_0c⟩ (fun hHeld => ?_)
        clear hK K
        try simp only [Act.put, List.getElem_toArray, List.getElem_cons_succ, List.getElem_cons_zero, List.setIfInBounds_toArray, List.set_cons_zero, List.set_cons_succ]
        obtain ⟨hP_0c, hX_0c, hO_0c, hY_0c, hB_0c⟩ := id hHeld
        simp only [List.length_nil]
        refine wpAnyH_ready (rs := [4]) (by kernel_rfl) (by simp) ?_
        refine AllReadyH.cons (o := _) rfl (fun K hK => ?_) AllReadyH.nil
        go_simp
        (go_at_call 22; refine (sameSite_is 0 0 0 0 0 0 0 0 0 0 0 0 0 0 false A2 A3 cp2 cp3 [] (n := 0) rfl hY_0c.row hT_0c.row (by omega)).mono ?_; rintro e x0cc ⟨rfl, hw_0cc⟩)
        refine hK.out _ _ ⟨blk_next hP_0c hw_0cc, blk_next hX_0c hw_0cc, hO_0c.next hw_0cc, hY_0c.next hw_0cc, bel_next hB_0c hw_0cc⟩ (fun hHeld => ?_)
        clear hK K
        try simp only [Act.put, List.getElem_toArray, List.getElem_cons_succ, List.getElem_cons_zero, List.setIfInBounds_toArray, List.set_cons_zero, List.set_cons_succ]
        obtain ⟨hP_0cc, hX_0cc, hO_0cc, hY_0cc, hB_0cc⟩ := id hHeld
        have hT_0cc := hT_0c.next hw_0cc
        refine wpAnyH_take (i := 5) (oi := _) (v := ?_) rfl (by kernel_rfl) (by kernel_rfl) (by kernel_rfl) (fun _ _ _ h => h) (Or.inl ⟨by rfl, ?_⟩) (by assumption) ?_
        (rotate_left); (focus (intro wv hSw; (obtain ⟨qP, qX, qO, qY, qB⟩ := hSw);  go_simp; (try with_reducible rfl)))
        try simp only [Act.put, List.getElem_toArray, List.getElem_cons_succ, List.getElem_cons_zero, List.setIfInBounds_toArray, List.set_cons_zero, List.set_cons_succ]
        refine wpAnyH_done (by kernel_rfl) ?_ _
        have hP4 := hP_0cc
        have hX4 := hX_0cc
        have hO4 := hO_0cc
        have hY4 := hY_0cc
        have hB4 := hB_0cc
        clear hP_0cc hX_0cc hO_0cc hY_0cc hB_0cc
        go_wp2_with (first | (refine wpList_load_row rfl 33 _ rfl _ rfl _ _ (0, 0) _ (by assumption) Tryz.underlying33 rfl (by kernel_rfl) ?_) | (refine wpList_load_rowG (by rfl) 33 _ rfl _ rfl _ _ (0, 0) _ (by assumption) Tryz.underlying33 rfl (by kernel_rfl) ?_))
        refine (sSV10_is la dy mi e1 n1 fe fn fu ho ha ne lo hi st up A cp xs _ HM.out hO4.row hm2 HV.out).mono ?_; rintro e' w5 ⟨rfl, hw5⟩
        have hP5 := blk_next hP4 hw5
        have hX5 := blk_next hX4 hw5
        have hO5 := hO4.next hw5
        have hY5 := hY4.next hw5
        have hB5 := bel_next hB4 hw5
        go_wp2_with (first | (refine wpList_load_row rfl 33 _ rfl _ rfl _ _ (0, 0) _ (by assumption) Tryz.underlying33 rfl (by kernel_rfl) ?_) | (refine wpList_load_rowG (by rfl) 33 _ rfl _ rfl _ _ (0, 0) _ (by assumption) Tryz.underlying33 rfl (by kernel_rfl) ?_))
        refine (noSite_is A2 cp2 _).mono ?_; rintro e' w6 ⟨rfl, hw6⟩
        have hP6 := blk_next hP5 hw6
        have hX6 := blk_next hX5 hw6
        have hO6 := hO5.next hw6
        have hY6 := hY5.next hw6
        have hB6 := bel_next hB5 hw6
        go_wp2_with (first | (refine wpList_load_row rfl 33 _ rfl _ rfl _ _ (0, 0) _ (by assumption) Tryz.underlying33 rfl (by kernel_rfl) ?_) | (refine wpList_load_rowG (by rfl) 33 _ rfl _ rfl _ _ (0, 0) _ (by assumption) Tryz.underlying33 rfl (by kernel_rfl) ?_))
        refine (alive_bel _).mono ?_; rintro e' w7 ⟨rfl, hw7⟩
        have hP7 := blk_next hP6 hw7
        have hX7 := blk_next hX6 hw7
        have hO7 := hO6.next hw7
        have hY7 := hY6.next hw7
        have hB7 := bel_next hB6 hw7
        go_wp2_with (first | (refine wpList_load_row rfl 33 _ rfl _ rfl _ _ (0, 0) _ (by assumption) Tryz.underlying33 rfl (by kernel_rfl) ?_) | (refine wpList_load_rowG (by rfl) 33 _ rfl _ rfl _ _ (0, 0) _ (by assumption) Tryz.underlying33 rfl (by kernel_rfl) ?_))
        go_ret
        exact ⟨rfl, by first | exact hB7 | exact hB7.drew⟩
    · by_cases hm0 : mq < 0
      · as_aux_lemma =>
          have hq : inV mq 0 96 = false := by unfold inV; simp; omega
          have HT : Hid (siT la dy mi e1 n1 fe fn fu ho ha ne lo hi st up xs mq = siZ) := Lib.hid (siT_no (.inr hq))
          have HV := Lib.hid hv
          clear hv
          have hP1 : (w1.alloc (.cells #[.int .i64 la, .int .i64 dy, .int .i64 mi, .slice A m cp, .int .i64 e1, .int .i64 n1, .int .i64 fe, .int .i64 fn, .int .i64 fu, .int .i64 ho, .int .i64 ha, .int .i64 ne, .int .i64 lo, .int .i64 hi, .bool up, .int .i64 st] 33 (0, 0))).heap[w1.heap.size]? = some (.cells #[.int .i64 la, .int .i64 dy, .int .i64 mi, .slice A m cp, .int .i64 e1, .int .i64 n1, .int .i64 fe, .int .i64 fn, .int .i64 fu, .int .i64 ho, .int .i64 ha, .int .i64 ne, .int .i64 lo, .int .i64 hi, .bool up, .int .i64 st] 33 (0, 0)) := by have := blk_new (w1) (.cells #[.int .i64 la, .int .i64 dy, .int .i64 mi, .slice A m cp, .int .i64 e1, .int .i64 n1, .int .i64 fe, .int .i64 fn, .int .i64 fu, .int .i64 ho, .int .i64 ha, .int .i64 ne, .int .i64 lo, .int .i64 hi, .bool up, .int .i64 st] 33 (0, 0)); simpa using this
          have hB1 := hB0.alloc hB0.size (.cells #[.int .i64 la, .int .i64 dy, .int .i64 mi, .slice A m cp, .int .i64 e1, .int .i64 n1, .int .i64 fe, .int .i64 fn, .int .i64 fu, .int .i64 ho, .int .i64 ha, .int .i64 ne, .int .i64 lo, .int .i64 hi, .bool up, .int .i64 st] 33 (0, 0))
          have hO1 := hO0.next (bel1 _ (.cells #[.int .i64 la, .int .i64 dy, .int .i64 mi, .slice A m cp, .int .i64 e1, .int .i64 n1, .int .i64 fe, .int .i64 fn, .int .i64 fu, .int .i64 ho, .int .i64 ha, .int .i64 ne, .int .i64 lo, .int .i64 hi, .bool up, .int .i64 st] 33 (0, 0)))
          have zBP := hB0.size
          go_wp2_with (first | (refine wpList_load_row rfl 33 _ rfl _ rfl _ _ (0, 0) _ (by assumption) Tryz.underlying33 rfl (by kernel_rfl) ?_) | (refine wpList_load_rowG (by rfl) 33 _ rfl _ rfl _ _ (0, 0) _ (by assumption) Tryz.underlying33 rfl (by kernel_rfl) ?_))
          refine (iSTs_is la dy mi e1 n1 fe fn fu ho ha ne lo hi st up A cp xs _ HM.out hO1.row hm2 HT.out).mono ?_; rintro e' w2 ⟨A2, cp2, rfl, hY2, hw2⟩
          have hP2 := blk_next hP1 hw2
          have hO2 := hO1.next hw2
          have hB2 := bel_next hB1 hw2
          have hY2 := hY2.mono (base' := w.heap.size) hB1.size
          simp only [List.length_nil]
          have zPX := blk_lt hP2
          have hX3 : (w2.alloc (.cells #[.int .i64 0, .int .i64 0, .int .i64 0, .slice A2 0 cp2, .int .i64 0, .int .i64 0, .int .i64 0, .int .i64 0, .int .i64 0, .int .i64 0, .int .i64 0, .int .i64 0, .int .i64 0, .int .i64 0, .bool false, .int .i64 0] 33 (0, 0))).heap[w2.heap.size]? = some (.cells #[.int .i64 0, .int .i64 0, .int .i64 0, .slice A2 0 cp2, .int .i64 0, .int .i64 0, .int .i64 0, .int .i64 0, .int .i64 0, .int .i64 0, .int .i64 0, .int .i64 0, .int .i64 0, .int .i64 0, .bool false, .int .i64 0] 33 (0, 0)) := by have := blk_new (w2) (.cells #[.int .i64 0, .int .i64 0, .int .i64 0, .slice A2 0 cp2, .int .i64 0, .int .i64 0, .int .i64 0, .int .i64 0, .int .i64 0, .int .i64 0, .int .i64 0, .int .i64 0, .int .i64 0, .int .i64 0, .bool false, .int .i64 0] 33 (0, 0)); simpa using this
          have hP3 := blk_old hP2 (.cells #[.int .i64 0, .int .i64 0, .int .i64 0, .slice A2 0 cp2, .int .i64 0, .int .i64 0, .int .i64 0, .int .i64 0, .int .i64 0, .int .i64 0, .int .i64 0, .int .i64 0, .int .i64 0, .int .i64 0, .bool false, .int .i64 0] 33 (0, 0))
          have hB3 := hB2.alloc hB2.size (.cells #[.int .i64 0, .int .i64 0, .int .i64 0, .slice A2 0 cp2, .int .i64 0, .int .i64 0, .int .i64 0, .int .i64 0, .int .i64 0, .int .i64 0, .int .i64 0, .int .i64 0, .int .i64 0, .int .i64 0, .bool false, .int .i64 0] 33 (0, 0))
          have hO3 := hO2.next (bel1 _ (.cells #[.int .i64 0, .int .i64 0, .int .i64 0, .slice A2 0 cp2, .int .i64 0, .int .i64 0, .int .i64 0, .int .i64 0, .int .i64 0, .int .i64 0, .int .i64 0, .int .i64 0, .int .i64 0, .int .i64 0, .bool false, .int .i64 0] 33 (0, 0)))
          have hY3 := hY2.next (bel1 _ (.cells #[.int .i64 0, .int .i64 0, .int .i64 0, .slice A2 0 cp2, .int .i64 0, .int .i64 0, .int .i64 0, .int .i64 0, .int .i64 0, .int .i64 0, .int .i64 0, .int .i64 0, .int .i64 0, .int .i64 0, .bool false, .int .i64 0] 33 (0, 0)))
          have zBX := hB2.size
          go_wp2_with (first | (refine wpList_load_row rfl 33 _ rfl _ rfl _ _ (0, 0) _ (by assumption) Tryz.underlying33 rfl (by kernel_rfl) ?_) | (refine wpList_load_rowG (by rfl) 33 _ rfl _ rfl _ _ (0, 0) _ (by assumption) Tryz.underlying33 rfl (by kernel_rfl) ?_))
          refine wp_region_held_drew (S := (fun w' => w'.heap[w1.heap.size]? = some (.cells #[.int .i64 la, .int .i64 dy, .int .i64 mi, .slice A m cp, .int .i64 e1, .int .i64 n1, .int .i64 fe, .int .i64 fn, .int .i64 fu, .int .i64 ho, .int .i64 ha, .int .i64 ne, .int .i64 lo, .int .i64 hi, .bool up, .int .i64 st] 33 (0, 0)) ∧ w'.heap[w2.heap.size]? = some (.cells #[.int .i64 0, .int .i64 0, .int .i64 0, .slice A2 0 cp2, .int .i64 0, .int .i64 0, .int .i64 0, .int .i64 0, .int .i64 0, .int .i64 0, .int .i64 0, .int .i64 0, .int .i64 0, .int .i64 0, .bool false, .int .i64 0] 33 (0, 0)) ∧ SOwn encBlock w' w.heap.size 40 A cp xs ∧ SOwn encBlock w' w.heap.size 40 A2 cp2 [] ∧ Below w.heap.size w w')) (by kernel_rfl) ⟨hP3, hX3, hO3.drew, hY3.drew, hB3.drew⟩ (fun hHeld => ?_)
          obtain ⟨hP_0, hX_0, hO_0, hY_0, hB_0⟩ := id hHeld
          refine wpAnyH_take (i := 0) (oi := _) (v := ?_) rfl (by kernel_rfl) (by kernel_rfl) (by kernel_rfl) (fun _ _ _ h => h) (Or.inl ⟨by rfl, ?_⟩) (by assumption) ?_
          (rotate_left); (focus (intro wv hSw; (obtain ⟨qP, qX, qO, qY, qB⟩ := hSw); refine run_load_row9 33 ?x9_3 ?h9_3 _ ?e9_3 _ _ (0, 0) _ qX Tryz.underlying33 rfl (by kernel_rfl); (case h9_3 => rfl); (case e9_3 => rfl)))
          try simp only [Act.put, List.getElem_toArray, List.getElem_cons_succ, List.getElem_cons_zero, List.setIfInBounds_toArray, List.set_cons_zero, List.set_cons_succ]
          refine wpAnyH_take (i := 1) (oi := _) (v := ?_) rfl (by kernel_rfl) (by kernel_rfl) (by kernel_rfl) (fun _ _ _ h => h) (Or.inl ⟨by rfl, ?_⟩) (by assumption) ?_
          (rotate_left); (focus (intro wv hSw; (obtain ⟨qP, qX, qO, qY, qB⟩ := hSw); refine run_load_row9 33 ?x9_4 ?h9_4 _ ?e9_4 _ _ (0, 0) _ qP Tryz.underlying33 rfl (by kernel_rfl); (case h9_4 => rfl); (case e9_4 => rfl)))
          try simp only [Act.put, List.getElem_toArray, List.getElem_cons_succ, List.getElem_cons_zero, List.setIfInBounds_toArray, List.set_cons_zero, List.set_cons_succ]
          refine wpAnyH_take (i := 2) (oi := _) (v := ?_) rfl (by kernel_rfl) (by kernel_rfl) (by kernel_rfl) (fun _ _ _ h => h) (Or.inl ⟨by rfl, ?_⟩) (by assumption) ?_
          (rotate_left); (focus (intro wv hSw; (obtain ⟨qP, qX, qO, qY, qB⟩ := hSw);  go_simp; (try with_reducible rfl)))
          try simp only [Act.put, List.getElem_toArray, List.getElem_cons_succ, List.getElem_cons_zero, List.setIfInBounds_toArray, List.set_cons_zero, List.set_cons_succ]
          refine wpAnyH_ready (rs := [3]) (by kernel_rfl) (by simp) ?_
          refine AllReadyH.cons (o := _) rfl (fun K hK => ?_) AllReadyH.nil
          go_simp
          (go_at_call 32; refine (sSTs_is la dy mi e1 n1 fe fn fu ho ha ne lo hi st up A cp xs _ HM.out hO_0.row hm2 HT.out).mono ?_; rintro e x0c ⟨A3, cp3, rfl, hT_0c, hw_0c⟩)
          refine hK.out _ _ ⟨blk_next hP_0 hw_0c, blk_next hX_0 hw_0c, hO_0.next hw_0c, hY_0.next hw_0c, bel_next hB_0 hw_0c⟩ (fun hHeld => ?_)
          clear hK K
          try simp only [Act.put, List.getElem_toArray, List.getElem_cons_succ, List.getElem_cons_zero, List.setIfInBounds_toArray, List.set_cons_zero, List.set_cons_succ]
          obtain ⟨hP_0c, hX_0c, hO_0c, hY_0c, hB_0c⟩ := id hHeld
          simp only [List.length_nil]
          refine wpAnyH_ready (rs := [4]) (by kernel_rfl) (by simp) ?_
          refine AllReadyH.cons (o := _) rfl (fun K hK => ?_) AllReadyH.nil
          go_simp
          (go_at_call 22; refine (sameSite_is 0 0 0 0 0 0 0 0 0 0 0 0 0 0 false A2 A3 cp2 cp3 [] (n := 0) rfl hY_0c.row hT_0c.row (by omega)).mono ?_; rintro e x0cc ⟨rfl, hw_0cc⟩)
          refine hK.out _ _ ⟨blk_next hP_0c hw_0cc, blk_next hX_0c hw_0cc, hO_0c.next hw_0cc, hY_0c.next hw_0cc, bel_next hB_0c hw_0cc⟩ (fun hHeld => ?_)
          clear hK K
          try simp only [Act.put, List.getElem_toArray, List.getElem_cons_succ, List.getElem_cons_zero, List.setIfInBounds_toArray, List.set_cons_zero, List.set_cons_succ]
          obtain ⟨hP_0cc, hX_0cc, hO_0cc, hY_0cc, hB_0cc⟩ := id hHeld
          have hT_0cc := hT_0c.next hw_0cc
          refine wpAnyH_take (i := 5) (oi := _) (v := ?_) rfl (by kernel_rfl) (by kernel_rfl) (by kernel_rfl) (fun _ _ _ h => h) (Or.inl ⟨by rfl, ?_⟩) (by assumption) ?_
          (rotate_left); (focus (intro wv hSw; (obtain ⟨qP, qX, qO, qY, qB⟩ := hSw);  go_simp; (try with_reducible rfl)))
          try simp only [Act.put, List.getElem_toArray, List.getElem_cons_succ, List.getElem_cons_zero, List.setIfInBounds_toArray, List.set_cons_zero, List.set_cons_succ]
          refine wpAnyH_done (by kernel_rfl) ?_ _
          have hP4 := hP_0cc
          have hX4 := hX_0cc
          have hO4 := hO_0cc
          have hY4 := hY_0cc
          have hB4 := hB_0cc
          clear hP_0cc hX_0cc hO_0cc hY_0cc hB_0cc
          go_wp2_with (first | (refine wpList_load_row rfl 33 _ rfl _ rfl _ _ (0, 0) _ (by assumption) Tryz.underlying33 rfl (by kernel_rfl) ?_) | (refine wpList_load_rowG (by rfl) 33 _ rfl _ rfl _ _ (0, 0) _ (by assumption) Tryz.underlying33 rfl (by kernel_rfl) ?_))
          refine (sSV10_is la dy mi e1 n1 fe fn fu ho ha ne lo hi st up A cp xs _ HM.out hO4.row hm2 HV.out).mono ?_; rintro e' w5 ⟨rfl, hw5⟩
          have hP5 := blk_next hP4 hw5
          have hX5 := blk_next hX4 hw5
          have hO5 := hO4.next hw5
          have hY5 := hY4.next hw5
          have hB5 := bel_next hB4 hw5
          go_wp2_with (first | (refine wpList_load_row rfl 33 _ rfl _ rfl _ _ (0, 0) _ (by assumption) Tryz.underlying33 rfl (by kernel_rfl) ?_) | (refine wpList_load_rowG (by rfl) 33 _ rfl _ rfl _ _ (0, 0) _ (by assumption) Tryz.underlying33 rfl (by kernel_rfl) ?_))
          refine (noSite_is A2 cp2 _).mono ?_; rintro e' w6 ⟨rfl, hw6⟩
          have hP6 := blk_next hP5 hw6
          have hX6 := blk_next hX5 hw6
          have hO6 := hO5.next hw6
          have hY6 := hY5.next hw6
          have hB6 := bel_next hB5 hw6
          go_wp2_with (first | (refine wpList_load_row rfl 33 _ rfl _ rfl _ _ (0, 0) _ (by assumption) Tryz.underlying33 rfl (by kernel_rfl) ?_) | (refine wpList_load_rowG (by rfl) 33 _ rfl _ rfl _ _ (0, 0) _ (by assumption) Tryz.underlying33 rfl (by kernel_rfl) ?_))
          refine (alive_bel _).mono ?_; rintro e' w7 ⟨rfl, hw7⟩
          have hP7 := blk_next hP6 hw7
          have hX7 := blk_next hX6 hw7
          have hO7 := hO6.next hw7
          have hY7 := hY6.next hw7
          have hB7 := bel_next hB6 hw7
          go_wp2_with (first | (refine wpList_load_row rfl 33 _ rfl _ rfl _ _ (0, 0) _ (by assumption) Tryz.underlying33 rfl (by kernel_rfl) ?_) | (refine wpList_load_rowG (by rfl) 33 _ rfl _ rfl _ _ (0, 0) _ (by assumption) Tryz.underlying33 rfl (by kernel_rfl) ?_))
          go_ret
          exact ⟨rfl, by first | exact hB7 | exact hB7.drew⟩
      · by_cases hm9 : 96 < mq
        · as_aux_lemma =>
            have hq : inV mq 0 96 = false := by unfold inV; simp; omega
            have HT : Hid (siT la dy mi e1 n1 fe fn fu ho ha ne lo hi st up xs mq = siZ) := Lib.hid (siT_no (.inr hq))
            have HV := Lib.hid hv
            clear hv
            have hP1 : (w1.alloc (.cells #[.int .i64 la, .int .i64 dy, .int .i64 mi, .slice A m cp, .int .i64 e1, .int .i64 n1, .int .i64 fe, .int .i64 fn, .int .i64 fu, .int .i64 ho, .int .i64 ha, .int .i64 ne, .int .i64 lo, .int .i64 hi, .bool up, .int .i64 st] 33 (0, 0))).heap[w1.heap.size]? = some (.cells #[.int .i64 la, .int .i64 dy, .int .i64 mi, .slice A m cp, .int .i64 e1, .int .i64 n1, .int .i64 fe, .int .i64 fn, .int .i64 fu, .int .i64 ho, .int .i64 ha, .int .i64 ne, .int .i64 lo, .int .i64 hi, .bool up, .int .i64 st] 33 (0, 0)) := by have := blk_new (w1) (.cells #[.int .i64 la, .int .i64 dy, .int .i64 mi, .slice A m cp, .int .i64 e1, .int .i64 n1, .int .i64 fe, .int .i64 fn, .int .i64 fu, .int .i64 ho, .int .i64 ha, .int .i64 ne, .int .i64 lo, .int .i64 hi, .bool up, .int .i64 st] 33 (0, 0)); simpa using this
            have hB1 := hB0.alloc hB0.size (.cells #[.int .i64 la, .int .i64 dy, .int .i64 mi, .slice A m cp, .int .i64 e1, .int .i64 n1, .int .i64 fe, .int .i64 fn, .int .i64 fu, .int .i64 ho, .int .i64 ha, .int .i64 ne, .int .i64 lo, .int .i64 hi, .bool up, .int .i64 st] 33 (0, 0))
            have hO1 := hO0.next (bel1 _ (.cells #[.int .i64 la, .int .i64 dy, .int .i64 mi, .slice A m cp, .int .i64 e1, .int .i64 n1, .int .i64 fe, .int .i64 fn, .int .i64 fu, .int .i64 ho, .int .i64 ha, .int .i64 ne, .int .i64 lo, .int .i64 hi, .bool up, .int .i64 st] 33 (0, 0)))
            have zBP := hB0.size
            go_wp2_with (first | (refine wpList_load_row rfl 33 _ rfl _ rfl _ _ (0, 0) _ (by assumption) Tryz.underlying33 rfl (by kernel_rfl) ?_) | (refine wpList_load_rowG (by rfl) 33 _ rfl _ rfl _ _ (0, 0) _ (by assumption) Tryz.underlying33 rfl (by kernel_rfl) ?_))
            refine (iSTs_is la dy mi e1 n1 fe fn fu ho ha ne lo hi st up A cp xs _ HM.out hO1.row hm2 HT.out).mono ?_; rintro e' w2 ⟨A2, cp2, rfl, hY2, hw2⟩
            have hP2 := blk_next hP1 hw2
            have hO2 := hO1.next hw2
            have hB2 := bel_next hB1 hw2
            have hY2 := hY2.mono (base' := w.heap.size) hB1.size
            simp only [List.length_nil]
            have zPX := blk_lt hP2
            have hX3 : (w2.alloc (.cells #[.int .i64 0, .int .i64 0, .int .i64 0, .slice A2 0 cp2, .int .i64 0, .int .i64 0, .int .i64 0, .int .i64 0, .int .i64 0, .int .i64 0, .int .i64 0, .int .i64 0, .int .i64 0, .int .i64 0, .bool false, .int .i64 0] 33 (0, 0))).heap[w2.heap.size]? = some (.cells #[.int .i64 0, .int .i64 0, .int .i64 0, .slice A2 0 cp2, .int .i64 0, .int .i64 0, .int .i64 0, .int .i64 0, .int .i64 0, .int .i64 0, .int .i64 0, .int .i64 0, .int .i64 0, .int .i64 0, .bool false, .int .i64 0] 33 (0, 0)) := by have := blk_new (w2) (.cells #[.int .i64 0, .int .i64 0, .int .i64 0, .slice A2 0 cp2, .int .i64 0, .int .i64 0, .int .i64 0, .int .i64 0, .int .i64 0, .int .i64 0, .int .i64 0, .int .i64 0, .int .i64 0, .int .i64 0, .bool false, .int .i64 0] 33 (0, 0)); simpa using this
            have hP3 := blk_old hP2 (.cells #[.int .i64 0, .int .i64 0, .int .i64 0, .slice A2 0 cp2, .int .i64 0, .int .i64 0, .int .i64 0, .int .i64 0, .int .i64 0, .int .i64 0, .int .i64 0, .int .i64 0, .int .i64 0, .int .i64 0, .bool false, .int .i64 0] 33 (0, 0))
            have hB3 := hB2.alloc hB2.size (.cells #[.int .i64 0, .int .i64 0, .int .i64 0, .slice A2 0 cp2, .int .i64 0, .int .i64 0, .int .i64 0, .int .i64 0, .int .i64 0, .int .i64 0, .int .i64 0, .int .i64 0, .int .i64 0, .int .i64 0, .bool false, .int .i64 0] 33 (0, 0))
            have hO3 := hO2.next (bel1 _ (.cells #[.int .i64 0, .int .i64 0, .int .i64 0, .slice A2 0 cp2, .int .i64 0, .int .i64 0, .int .i64 0, .int .i64 0, .int .i64 0, .int .i64 0, .int .i64 0, .int .i64 0, .int .i64 0, .int .i64 0, .bool false, .int .i64 0] 33 (0, 0)))
            have hY3 := hY2.next (bel1 _ (.cells #[.int .i64 0, .int .i64 0, .int .i64 0, .slice A2 0 cp2, .int .i64 0, .int .i64 0, .int .i64 0, .int .i64 0, .int .i64 0, .int .i64 0, .int .i64 0, .int .i64 0, .int .i64 0, .int .i64 0, .bool false, .int .i64 0] 33 (0, 0)))
            have zBX := hB2.size
            go_wp2_with (first | (refine wpList_load_row rfl 33 _ rfl _ rfl _ _ (0, 0) _ (by assumption) Tryz.underlying33 rfl (by kernel_rfl) ?_) | (refine wpList_load_rowG (by rfl) 33 _ rfl _ rfl _ _ (0, 0) _ (by assumption) Tryz.underlying33 rfl (by kernel_rfl) ?_))
            refine wp_region_held_drew (S := (fun w' => w'.heap[w1.heap.size]? = some (.cells #[.int .i64 la, .int .i64 dy, .int .i64 mi, .slice A m cp, .int .i64 e1, .int .i64 n1, .int .i64 fe, .int .i64 fn, .int .i64 fu, .int .i64 ho, .int .i64 ha, .int .i64 ne, .int .i64 lo, .int .i64 hi, .bool up, .int .i64 st] 33 (0, 0)) ∧ w'.heap[w2.heap.size]? = some (.cells #[.int .i64 0, .int .i64 0, .int .i64 0, .slice A2 0 cp2, .int .i64 0, .int .i64 0, .int .i64 0, .int .i64 0, .int .i64 0, .int .i64 0, .int .i64 0, .int .i64 0, .int .i64 0, .int .i64 0, .bool false, .int .i64 0] 33 (0, 0)) ∧ SOwn encBlock w' w.heap.size 40 A cp xs ∧ SOwn encBlock w' w.heap.size 40 A2 cp2 [] ∧ Below w.heap.size w w')) (by kernel_rfl) ⟨hP3, hX3, hO3.drew, hY3.drew, hB3.drew⟩ (fun hHeld => ?_)
            obtain ⟨hP_0, hX_0, hO_0, hY_0, hB_0⟩ := id hHeld
            refine wpAnyH_take (i := 0) (oi := _) (v := ?_) rfl (by kernel_rfl) (by kernel_rfl) (by kernel_rfl) (fun _ _ _ h => h) (Or.inl ⟨by rfl, ?_⟩) (by assumption) ?_
            (rotate_left); (focus (intro wv hSw; (obtain ⟨qP, qX, qO, qY, qB⟩ := hSw); refine run_load_row9 33 ?x9_5 ?h9_5 _ ?e9_5 _ _ (0, 0) _ qX Tryz.underlying33 rfl (by kernel_rfl); (case h9_5 => rfl); (case e9_5 => rfl)))
            try simp only [Act.put, List.getElem_toArray, List.getElem_cons_succ, List.getElem_cons_zero, List.setIfInBounds_toArray, List.set_cons_zero, List.set_cons_succ]
            refine wpAnyH_take (i := 1) (oi := _) (v := ?_) rfl (by kernel_rfl) (by kernel_rfl) (by kernel_rfl) (fun _ _ _ h => h) (Or.inl ⟨by rfl, ?_⟩) (by assumption) ?_
            (rotate_left); (focus (intro wv hSw; (obtain ⟨qP, qX, qO, qY, qB⟩ := hSw); refine run_load_row9 33 ?x9_6 ?h9_6 _ ?e9_6 _ _ (0, 0) _ qP Tryz.underlying33 rfl (by kernel_rfl); (case h9_6 => rfl); (case e9_6 => rfl)))
            try simp only [Act.put, List.getElem_toArray, List.getElem_cons_succ, List.getElem_cons_zero, List.setIfInBounds_toArray, List.set_cons_zero, List.set_cons_succ]
            refine wpAnyH_take (i := 2) (oi := _) (v := ?_) rfl (by kernel_rfl) (by kernel_rfl) (by kernel_rfl) (fun _ _ _ h => h) (Or.inl ⟨by rfl, ?_⟩) (by assumption) ?_
            (rotate_left); (focus (intro wv hSw; (obtain ⟨qP, qX, qO, qY, qB⟩ := hSw);  go_simp; (try with_reducible rfl)))
            try simp only [Act.put, List.getElem_toArray, List.getElem_cons_succ, List.getElem_cons_zero, List.setIfInBounds_toArray, List.set_cons_zero, List.set_cons_succ]
            refine wpAnyH_ready (rs := [3]) (by kernel_rfl) (by simp) ?_
            refine AllReadyH.cons (o := _) rfl (fun K hK => ?_) AllReadyH.nil
            go_simp
            (go_at_call 32; refine (sSTs_is la dy mi e1 n1 fe fn fu ho ha ne lo hi st up A cp xs _ HM.out hO_0.row hm2 HT.out).mono ?_; rintro e x0c ⟨A3, cp3, rfl, hT_0c, hw_0c⟩)
            refine hK.out _ _ ⟨blk_next hP_0 hw_0c, blk_next hX_0 hw_0c, hO_0.next hw_0c, hY_0.next hw_0c, bel_next hB_0 hw_0c⟩ (fun hHeld => ?_)
            clear hK K
            try simp only [Act.put, List.getElem_toArray, List.getElem_cons_succ, List.getElem_cons_zero, List.setIfInBounds_toArray, List.set_cons_zero, List.set_cons_succ]
            obtain ⟨hP_0c, hX_0c, hO_0c, hY_0c, hB_0c⟩ := id hHeld
            simp only [List.length_nil]
            refine wpAnyH_ready (rs := [4]) (by kernel_rfl) (by simp) ?_
            refine AllReadyH.cons (o := _) rfl (fun K hK => ?_) AllReadyH.nil
            go_simp
            (go_at_call 22; refine (sameSite_is 0 0 0 0 0 0 0 0 0 0 0 0 0 0 false A2 A3 cp2 cp3 [] (n := 0) rfl hY_0c.row hT_0c.row (by omega)).mono ?_; rintro e x0cc ⟨rfl, hw_0cc⟩)
            refine hK.out _ _ ⟨blk_next hP_0c hw_0cc, blk_next hX_0c hw_0cc, hO_0c.next hw_0cc, hY_0c.next hw_0cc, bel_next hB_0c hw_0cc⟩ (fun hHeld => ?_)
            clear hK K
            try simp only [Act.put, List.getElem_toArray, List.getElem_cons_succ, List.getElem_cons_zero, List.setIfInBounds_toArray, List.set_cons_zero, List.set_cons_succ]
            obtain ⟨hP_0cc, hX_0cc, hO_0cc, hY_0cc, hB_0cc⟩ := id hHeld
            have hT_0cc := hT_0c.next hw_0cc
            refine wpAnyH_take (i := 5) (oi := _) (v := ?_) rfl (by kernel_rfl) (by kernel_rfl) (by kernel_rfl) (fun _ _ _ h => h) (Or.inl ⟨by rfl, ?_⟩) (by assumption) ?_
            (rotate_left); (focus (intro wv hSw; (obtain ⟨qP, qX, qO, qY, qB⟩ := hSw);  go_simp; (try with_reducible rfl)))
            try simp only [Act.put, List.getElem_toArray, List.getElem_cons_succ, List.getElem_cons_zero, List.setIfInBounds_toArray, List.set_cons_zero, List.set_cons_succ]
            refine wpAnyH_done (by kernel_rfl) ?_ _
            have hP4 := hP_0cc
            have hX4 := hX_0cc
            have hO4 := hO_0cc
            have hY4 := hY_0cc
            have hB4 := hB_0cc
            clear hP_0cc hX_0cc hO_0cc hY_0cc hB_0cc
            go_wp2_with (first | (refine wpList_load_row rfl 33 _ rfl _ rfl _ _ (0, 0) _ (by assumption) Tryz.underlying33 rfl (by kernel_rfl) ?_) | (refine wpList_load_rowG (by rfl) 33 _ rfl _ rfl _ _ (0, 0) _ (by assumption) Tryz.underlying33 rfl (by kernel_rfl) ?_))
            refine (sSV10_is la dy mi e1 n1 fe fn fu ho ha ne lo hi st up A cp xs _ HM.out hO4.row hm2 HV.out).mono ?_; rintro e' w5 ⟨rfl, hw5⟩
            have hP5 := blk_next hP4 hw5
            have hX5 := blk_next hX4 hw5
            have hO5 := hO4.next hw5
            have hY5 := hY4.next hw5
            have hB5 := bel_next hB4 hw5
            go_wp2_with (first | (refine wpList_load_row rfl 33 _ rfl _ rfl _ _ (0, 0) _ (by assumption) Tryz.underlying33 rfl (by kernel_rfl) ?_) | (refine wpList_load_rowG (by rfl) 33 _ rfl _ rfl _ _ (0, 0) _ (by assumption) Tryz.underlying33 rfl (by kernel_rfl) ?_))
            refine (noSite_is A2 cp2 _).mono ?_; rintro e' w6 ⟨rfl, hw6⟩
            have hP6 := blk_next hP5 hw6
            have hX6 := blk_next hX5 hw6
            have hO6 := hO5.next hw6
            have hY6 := hY5.next hw6
            have hB6 := bel_next hB5 hw6
            go_wp2_with (first | (refine wpList_load_row rfl 33 _ rfl _ rfl _ _ (0, 0) _ (by assumption) Tryz.underlying33 rfl (by kernel_rfl) ?_) | (refine wpList_load_rowG (by rfl) 33 _ rfl _ rfl _ _ (0, 0) _ (by assumption) Tryz.underlying33 rfl (by kernel_rfl) ?_))
            refine (alive_bel _).mono ?_; rintro e' w7 ⟨rfl, hw7⟩
            have hP7 := blk_next hP6 hw7
            have hX7 := blk_next hX6 hw7
            have hO7 := hO6.next hw7
            have hY7 := hY6.next hw7
            have hB7 := bel_next hB6 hw7
            go_wp2_with (first | (refine wpList_load_row rfl 33 _ rfl _ rfl _ _ (0, 0) _ (by assumption) Tryz.underlying33 rfl (by kernel_rfl) ?_) | (refine wpList_load_rowG (by rfl) 33 _ rfl _ rfl _ _ (0, 0) _ (by assumption) Tryz.underlying33 rfl (by kernel_rfl) ?_))
            go_ret
            exact ⟨rfl, by first | exact hB7 | exact hB7.drew⟩
        · as_aux_lemma =>
            obtain ⟨M, rfl⟩ : ∃ M : Nat, mq = (M : Int) := ⟨mq.toNat, by omega⟩
            have hM : M ≤ 96 := by omega
            obtain ⟨h, hh⟩ : ∃ h, M / 2 = h := ⟨_, rfl⟩
            obtain ⟨f, hf⟩ : ∃ f, M = h + f := ⟨M - h, by omega⟩
            have hvv : tkV la e1 n1 fe fn fu ho ne lo hi xs (dy, mi, ha, up, st) := hv
            obtain ⟨⟨y0, y1⟩, ⟨y2, y3⟩, y4⟩ := tkV_time hvv
            dsimp only at y0 y1 y2 y3 y4
            obtain ⟨⟨d1, m1, a1, u1, t1⟩, hs1⟩ : ∃ s, tkN la e1 n1 fe fn fu ho ne lo hi xs h (dy, mi, ha, up, st) = s := ⟨_, rfl⟩
            obtain ⟨⟨d2, m2, a2, u2, t2⟩, hs2⟩ : ∃ s, tkN la e1 n1 fe fn fu ho ne lo hi xs M (dy, mi, ha, up, st) = s := ⟨_, rfl⟩
            obtain ⟨⟨d3, m3, a3, u3, t3⟩, hs3⟩ : ∃ s, tkN la e1 n1 fe fn fu ho ne lo hi xs 96 (dy, mi, ha, up, st) = s := ⟨_, rfl⟩
            have hv1 := tkV_all hvv h
            rw [hs1] at hv1
            have hv2 := tkV_all hvv M
            rw [hs2] at hv2
            obtain ⟨⟨z0, z1⟩, ⟨z2, z3⟩, z4⟩ := tkV_time hv2
            dsimp only at z0 z1 z2 z3 z4
            have hs12 : tkN la e1 n1 fe fn fu ho ne lo hi xs f (d1, m1, a1, u1, t1) = (d2, m2, a2, u2, t2) := by rw [← hs1, ← tkN_add, ← hf, hs2]
            have HT2 := Lib.hid (siT_yes (up := up) hv hM hs2)
            have HT1 := Lib.hid (siT_yes (up := up) hv (show h ≤ 96 by omega) hs1)
            have HT3 : Hid (siT la dy mi e1 n1 fe fn fu ho ha ne lo hi st up xs 96 = (la, d3, m3, e1, n1, fe, fn, fu, ho, a3, ne, lo, hi, t3, u3, xs)) := Lib.hid (siT_yes (M := 96) (up := up) hv (by omega) hs3)
            have HT9 : Hid (siT la d1 m1 e1 n1 fe fn fu ho a1 ne lo hi t1 u1 xs ((M : Int) - (h : Int)) = (la, d2, m2, e1, n1, fe, fn, fu, ho, a2, ne, lo, hi, t2, u2, xs)) := Lib.hid (by rw [show (M : Int) - (h : Int) = (f : Int) by omega]; exact siT_yes (up := u1) hv1 (by omega) hs12)
            obtain ⟨hd1, hd2⟩ := tkN_day hvv
            rw [hs3] at hd1 hd2
            dsimp only at hd1 hd2
            have hqt := tkN_qt hvv M
            rw [hs2] at hqt
            dsimp only at hqt
            obtain ⟨q0, hq0⟩ : ∃ q, qtI dy mi = q := ⟨_, rfl⟩
            obtain ⟨q2, hq2⟩ : ∃ q, qtI d2 m2 = q := ⟨_, rfl⟩
            rw [hq0, hq2] at hqt
            have hqb := qt_bd y0 y1 y2 y3
            rw [hq0] at hqb
            obtain ⟨qb0, qb1⟩ := hqb
            have hqe : (q0 + (M : Int)) % 35040 = q2 := by rw [hqt, Int.tmod_eq_emod_of_nonneg (by omega)]
            have hqe2 : (q0 + (M : Int)).tmod 35040 = q2 := hqt.symm
            have qc0 : 0 ≤ q2 ∧ q2 < 35040 := by omega
            have hqw1 : IntKind.i64.wrap (q0 + (M : Int)) = q0 + (M : Int) := IntWalk.i64_in _ (by omega)
            have hqw2 : IntKind.i64.wrap q2 = q2 := IntWalk.i64_in _ (by omega)
            obtain ⟨c, hc⟩ : ∃ c, dy.tmod 365 = c := ⟨_, rfl⟩
            have hc2 : dy % 365 = c := by rw [← hc, Int.tmod_eq_emod_of_nonneg (by omega)]
            have hcb : 0 ≤ c ∧ c ≤ 364 := by omega
            have hcw1 : IntKind.i64.wrap c = c := IntWalk.i64_in _ (by omega)
            have hcw2 : IntKind.i64.wrap (c + 1) = c + 1 := IntWalk.i64_in _ (by omega)
            rw [hc] at hd2
            have hd1s := hd1.symm
            clear hd1
            subst hd1s hd2
            have hhalf : (M : Int) / 2 = (h : Int) := by omega
            have hhalf2 : (M : Int).tdiv 2 = (h : Int) := by rw [Int.tdiv_eq_ediv_of_nonneg (by omega)]; omega
            have hhw : IntKind.i64.wrap (h : Int) = (h : Int) := IntWalk.i64_in _ (by omega)
            have hsw : IntKind.i64.wrap ((M : Int) - (h : Int)) = (M : Int) - (h : Int) := IntWalk.i64_in _ (by omega)
            have HV := Lib.hid hv
            have HQ0 := Lib.hid hq0
            have HQ2 := Lib.hid hq2
            clear hv hvv hs1 hs2 hs3 hs12 hv1 hv2 hq0 hq2 hqt y4 z4 hf hh
            have hP1 : (w1.alloc (.cells #[.int .i64 la, .int .i64 dy, .int .i64 mi, .slice A m cp, .int .i64 e1, .int .i64 n1, .int .i64 fe, .int .i64 fn, .int .i64 fu, .int .i64 ho, .int .i64 ha, .int .i64 ne, .int .i64 lo, .int .i64 hi, .bool up, .int .i64 st] 33 (0, 0))).heap[w1.heap.size]? = some (.cells #[.int .i64 la, .int .i64 dy, .int .i64 mi, .slice A m cp, .int .i64 e1, .int .i64 n1, .int .i64 fe, .int .i64 fn, .int .i64 fu, .int .i64 ho, .int .i64 ha, .int .i64 ne, .int .i64 lo, .int .i64 hi, .bool up, .int .i64 st] 33 (0, 0)) := by have := blk_new (w1) (.cells #[.int .i64 la, .int .i64 dy, .int .i64 mi, .slice A m cp, .int .i64 e1, .int .i64 n1, .int .i64 fe, .int .i64 fn, .int .i64 fu, .int .i64 ho, .int .i64 ha, .int .i64 ne, .int .i64 lo, .int .i64 hi, .bool up, .int .i64 st] 33 (0, 0)); simpa using this
            have hB1 := hB0.alloc hB0.size (.cells #[.int .i64 la, .int .i64 dy, .int .i64 mi, .slice A m cp, .int .i64 e1, .int .i64 n1, .int .i64 fe, .int .i64 fn, .int .i64 fu, .int .i64 ho, .int .i64 ha, .int .i64 ne, .int .i64 lo, .int .i64 hi, .bool up, .int .i64 st] 33 (0, 0))
            have hO1 := hO0.next (bel1 _ (.cells #[.int .i64 la, .int .i64 dy, .int .i64 mi, .slice A m cp, .int .i64 e1, .int .i64 n1, .int .i64 fe, .int .i64 fn, .int .i64 fu, .int .i64 ho, .int .i64 ha, .int .i64 ne, .int .i64 lo, .int .i64 hi, .bool up, .int .i64 st] 33 (0, 0)))
            have zBP := hB0.size
            go_wp2_with (first | (refine wpList_load_row rfl 33 _ rfl _ rfl _ _ (0, 0) _ (by assumption) Tryz.underlying33 rfl (by kernel_rfl) ?_) | (refine wpList_load_rowG (by rfl) 33 _ rfl _ rfl _ _ (0, 0) _ (by assumption) Tryz.underlying33 rfl (by kernel_rfl) ?_))
            refine (iSTs_is la dy mi e1 n1 fe fn fu ho ha ne lo hi st up A cp xs _ HM.out hO1.row hm2 HT2.out).mono ?_; rintro e' w2 ⟨A2, cp2, rfl, hY2, hw2⟩
            have hP2 := blk_next hP1 hw2
            have hO2 := hO1.next hw2
            have hB2 := bel_next hB1 hw2
            have hY2 := hY2.mono (base' := w.heap.size) hB1.size
            rw [HM.out]
            have zPX := blk_lt hP2
            have hX3 : (w2.alloc (.cells #[.int .i64 la, .int .i64 d2, .int .i64 m2, .slice A2 m cp2, .int .i64 e1, .int .i64 n1, .int .i64 fe, .int .i64 fn, .int .i64 fu, .int .i64 ho, .int .i64 a2, .int .i64 ne, .int .i64 lo, .int .i64 hi, .bool u2, .int .i64 t2] 33 (0, 0))).heap[w2.heap.size]? = some (.cells #[.int .i64 la, .int .i64 d2, .int .i64 m2, .slice A2 m cp2, .int .i64 e1, .int .i64 n1, .int .i64 fe, .int .i64 fn, .int .i64 fu, .int .i64 ho, .int .i64 a2, .int .i64 ne, .int .i64 lo, .int .i64 hi, .bool u2, .int .i64 t2] 33 (0, 0)) := by have := blk_new (w2) (.cells #[.int .i64 la, .int .i64 d2, .int .i64 m2, .slice A2 m cp2, .int .i64 e1, .int .i64 n1, .int .i64 fe, .int .i64 fn, .int .i64 fu, .int .i64 ho, .int .i64 a2, .int .i64 ne, .int .i64 lo, .int .i64 hi, .bool u2, .int .i64 t2] 33 (0, 0)); simpa using this
            have hP3 := blk_old hP2 (.cells #[.int .i64 la, .int .i64 d2, .int .i64 m2, .slice A2 m cp2, .int .i64 e1, .int .i64 n1, .int .i64 fe, .int .i64 fn, .int .i64 fu, .int .i64 ho, .int .i64 a2, .int .i64 ne, .int .i64 lo, .int .i64 hi, .bool u2, .int .i64 t2] 33 (0, 0))
            have hB3 := hB2.alloc hB2.size (.cells #[.int .i64 la, .int .i64 d2, .int .i64 m2, .slice A2 m cp2, .int .i64 e1, .int .i64 n1, .int .i64 fe, .int .i64 fn, .int .i64 fu, .int .i64 ho, .int .i64 a2, .int .i64 ne, .int .i64 lo, .int .i64 hi, .bool u2, .int .i64 t2] 33 (0, 0))
            have hO3 := hO2.next (bel1 _ (.cells #[.int .i64 la, .int .i64 d2, .int .i64 m2, .slice A2 m cp2, .int .i64 e1, .int .i64 n1, .int .i64 fe, .int .i64 fn, .int .i64 fu, .int .i64 ho, .int .i64 a2, .int .i64 ne, .int .i64 lo, .int .i64 hi, .bool u2, .int .i64 t2] 33 (0, 0)))
            have hY3 := hY2.next (bel1 _ (.cells #[.int .i64 la, .int .i64 d2, .int .i64 m2, .slice A2 m cp2, .int .i64 e1, .int .i64 n1, .int .i64 fe, .int .i64 fn, .int .i64 fu, .int .i64 ho, .int .i64 a2, .int .i64 ne, .int .i64 lo, .int .i64 hi, .bool u2, .int .i64 t2] 33 (0, 0)))
            have zBX := hB2.size
            go_wp2_with (first | (refine wpList_load_row rfl 33 _ rfl _ rfl _ _ (0, 0) _ (by assumption) Tryz.underlying33 rfl (by kernel_rfl) ?_) | (refine wpList_load_rowG (by rfl) 33 _ rfl _ rfl _ _ (0, 0) _ (by assumption) Tryz.underlying33 rfl (by kernel_rfl) ?_))
            refine wp_region_held_drew (S := (fun w' => w'.heap[w1.heap.size]? = some (.cells #[.int .i64 la, .int .i64 dy, .int .i64 mi, .slice A m cp, .int .i64 e1, .int .i64 n1, .int .i64 fe, .int .i64 fn, .int .i64 fu, .int .i64 ho, .int .i64 ha, .int .i64 ne, .int .i64 lo, .int .i64 hi, .bool up, .int .i64 st] 33 (0, 0)) ∧ w'.heap[w2.heap.size]? = some (.cells #[.int .i64 la, .int .i64 d2, .int .i64 m2, .slice A2 m cp2, .int .i64 e1, .int .i64 n1, .int .i64 fe, .int .i64 fn, .int .i64 fu, .int .i64 ho, .int .i64 a2, .int .i64 ne, .int .i64 lo, .int .i64 hi, .bool u2, .int .i64 t2] 33 (0, 0)) ∧ SOwn encBlock w' w.heap.size 40 A cp xs ∧ SOwn encBlock w' w.heap.size 40 A2 cp2 xs ∧ Below w.heap.size w w')) (by kernel_rfl) ⟨hP3, hX3, hO3.drew, hY3.drew, hB3.drew⟩ (fun hHeld => ?_)
            obtain ⟨hP_0, hX_0, hO_0, hY_0, hB_0⟩ := id hHeld
            refine wpAnyH_take (i := 0) (oi := _) (v := ?_) rfl (by kernel_rfl) (by kernel_rfl) (by kernel_rfl) (fun _ _ _ h => h) (Or.inl ⟨by rfl, ?_⟩) (by assumption) ?_
            (rotate_left); (focus (intro wv hSw; (obtain ⟨qP, qX, qO, qY, qB⟩ := hSw); refine run_load_row9 33 ?x9_7 ?h9_7 _ ?e9_7 _ _ (0, 0) _ qX Tryz.underlying33 rfl (by kernel_rfl); (case h9_7 => rfl); (case e9_7 => rfl)))
            try simp only [Act.put, List.getElem_toArray, List.getElem_cons_succ, List.getElem_cons_zero, List.setIfInBounds_toArray, List.set_cons_zero, List.set_cons_succ]
            refine wpAnyH_take (i := 1) (oi := _) (v := ?_) rfl (by kernel_rfl) (by kernel_rfl) (by kernel_rfl) (fun _ _ _ h => h) (Or.inl ⟨by rfl, ?_⟩) (by assumption) ?_
            (rotate_left); (focus (intro wv hSw; (obtain ⟨qP, qX, qO, qY, qB⟩ := hSw); refine run_load_row9 33 ?x9_8 ?h9_8 _ ?e9_8 _ _ (0, 0) _ qP Tryz.underlying33 rfl (by kernel_rfl); (case h9_8 => rfl); (case e9_8 => rfl)))
            try simp only [Act.put, List.getElem_toArray, List.getElem_cons_succ, List.getElem_cons_zero, List.setIfInBounds_toArray, List.set_cons_zero, List.set_cons_succ]
            refine wpAnyH_take (i := 2) (oi := _) (v := ?_) rfl (by kernel_rfl) (by kernel_rfl) (by kernel_rfl) (fun _ _ _ h => h) (Or.inl ⟨by rfl, ?_⟩) (by assumption) ?_
            (rotate_left); (focus (intro wv hSw; (obtain ⟨qP, qX, qO, qY, qB⟩ := hSw);  go_simp; (try with_reducible rfl)))
            try simp only [Act.put, List.getElem_toArray, List.getElem_cons_succ, List.getElem_cons_zero, List.setIfInBounds_toArray, List.set_cons_zero, List.set_cons_succ]
            refine wpAnyH_ready (rs := [3]) (by kernel_rfl) (by simp) ?_
            refine AllReadyH.cons (o := _) rfl (fun K hK => ?_) AllReadyH.nil
            go_simp
            (go_at_call 32; refine (sSTs_is la dy mi e1 n1 fe fn fu ho ha ne lo hi st up A cp xs _ HM.out hO_0.row hm2 HT2.out).mono ?_; rintro e x0c ⟨A3, cp3, rfl, hT_0c, hw_0c⟩)
            refine hK.out _ _ ⟨blk_next hP_0 hw_0c, blk_next hX_0 hw_0c, hO_0.next hw_0c, hY_0.next hw_0c, bel_next hB_0 hw_0c⟩ (fun hHeld => ?_)
            clear hK K
            try simp only [Act.put, List.getElem_toArray, List.getElem_cons_succ, List.getElem_cons_zero, List.setIfInBounds_toArray, List.set_cons_zero, List.set_cons_succ]
            obtain ⟨hP_0c, hX_0c, hO_0c, hY_0c, hB_0c⟩ := id hHeld
            rw [HM.out]
            refine wpAnyH_ready (rs := [4]) (by kernel_rfl) (by simp) ?_
            refine AllReadyH.cons (o := _) rfl (fun K hK => ?_) AllReadyH.nil
            go_simp
            (go_at_call 22; refine (sameSite_is la d2 m2 e1 n1 fe fn fu ho a2 ne lo hi t2 u2 A2 A3 cp2 cp3 xs HM.out hY_0c.row hT_0c.row hm2).mono ?_; rintro e x0cc ⟨rfl, hw_0cc⟩)
            refine hK.out _ _ ⟨blk_next hP_0c hw_0cc, blk_next hX_0c hw_0cc, hO_0c.next hw_0cc, hY_0c.next hw_0cc, bel_next hB_0c hw_0cc⟩ (fun hHeld => ?_)
            clear hK K
            try simp only [Act.put, List.getElem_toArray, List.getElem_cons_succ, List.getElem_cons_zero, List.setIfInBounds_toArray, List.set_cons_zero, List.set_cons_succ]
            obtain ⟨hP_0cc, hX_0cc, hO_0cc, hY_0cc, hB_0cc⟩ := id hHeld
            have hT_0cc := hT_0c.next hw_0cc
            refine wpAnyH_take (i := 5) (oi := _) (v := ?_) rfl (by kernel_rfl) (by kernel_rfl) (by kernel_rfl) (fun _ _ _ h => h) (Or.inl ⟨by rfl, ?_⟩) (by assumption) ?_
            (rotate_left); (focus (intro wv hSw; (obtain ⟨qP, qX, qO, qY, qB⟩ := hSw);  go_simp; (try with_reducible rfl)))
            try simp only [Act.put, List.getElem_toArray, List.getElem_cons_succ, List.getElem_cons_zero, List.setIfInBounds_toArray, List.set_cons_zero, List.set_cons_succ]
            refine wpAnyH_done (by kernel_rfl) ?_ _
            have hP4 := hP_0cc
            have hX4 := hX_0cc
            have hO4 := hO_0cc
            have hY4 := hY_0cc
            have hB4 := hB_0cc
            clear hP_0cc hX_0cc hO_0cc hY_0cc hB_0cc
            go_wp2_with (first | (refine wpList_load_row rfl 33 _ rfl _ rfl _ _ (0, 0) _ (by assumption) Tryz.underlying33 rfl (by kernel_rfl) ?_) | (refine wpList_load_rowG (by rfl) 33 _ rfl _ rfl _ _ (0, 0) _ (by assumption) Tryz.underlying33 rfl (by kernel_rfl) ?_))
            refine (sSV10_is la dy mi e1 n1 fe fn fu ho ha ne lo hi st up A cp xs _ HM.out hO4.row hm2 HV.out).mono ?_; rintro e' w5 ⟨rfl, hw5⟩
            have hP5 := blk_next hP4 hw5
            have hX5 := blk_next hX4 hw5
            have hO5 := hO4.next hw5
            have hY5 := hY4.next hw5
            have hB5 := bel_next hB4 hw5
            go_wp2_with (first | (refine wpList_load_row rfl 33 _ rfl _ rfl _ _ (0, 0) _ (by assumption) Tryz.underlying33 rfl (by kernel_rfl) ?_) | (refine wpList_load_rowG (by rfl) 33 _ rfl _ rfl _ _ (0, 0) _ (by assumption) Tryz.underlying33 rfl (by kernel_rfl) ?_))
            refine (iSTs_is la dy mi e1 n1 fe fn fu ho ha ne lo hi st up A cp xs _ HM.out hO5.row hm2 HT3.out).mono ?_; rintro e' w6 ⟨A4, cp4, rfl, hZZ, hw6⟩
            have hP6 := blk_next hP5 hw6
            have hX6 := blk_next hX5 hw6
            have hO6 := hO5.next hw6
            have hY6 := hY5.next hw6
            have hB6 := bel_next hB5 hw6
            rw [HM.out]
            have zPD := blk_lt hP6
            have zXD := blk_lt hX6
            have hD7 : (w6.alloc (.cells #[.int .i64 la, .int .i64 (c + 1), .int .i64 mi, .slice A4 m cp4, .int .i64 e1, .int .i64 n1, .int .i64 fe, .int .i64 fn, .int .i64 fu, .int .i64 ho, .int .i64 a3, .int .i64 ne, .int .i64 lo, .int .i64 hi, .bool u3, .int .i64 t3] 33 (0, 0))).heap[w6.heap.size]? = some (.cells #[.int .i64 la, .int .i64 (c + 1), .int .i64 mi, .slice A4 m cp4, .int .i64 e1, .int .i64 n1, .int .i64 fe, .int .i64 fn, .int .i64 fu, .int .i64 ho, .int .i64 a3, .int .i64 ne, .int .i64 lo, .int .i64 hi, .bool u3, .int .i64 t3] 33 (0, 0)) := by have := blk_new (w6) (.cells #[.int .i64 la, .int .i64 (c + 1), .int .i64 mi, .slice A4 m cp4, .int .i64 e1, .int .i64 n1, .int .i64 fe, .int .i64 fn, .int .i64 fu, .int .i64 ho, .int .i64 a3, .int .i64 ne, .int .i64 lo, .int .i64 hi, .bool u3, .int .i64 t3] 33 (0, 0)); simpa using this
            have hP7 := blk_old hP6 (.cells #[.int .i64 la, .int .i64 (c + 1), .int .i64 mi, .slice A4 m cp4, .int .i64 e1, .int .i64 n1, .int .i64 fe, .int .i64 fn, .int .i64 fu, .int .i64 ho, .int .i64 a3, .int .i64 ne, .int .i64 lo, .int .i64 hi, .bool u3, .int .i64 t3] 33 (0, 0))
            have hX7 := blk_old hX6 (.cells #[.int .i64 la, .int .i64 (c + 1), .int .i64 mi, .slice A4 m cp4, .int .i64 e1, .int .i64 n1, .int .i64 fe, .int .i64 fn, .int .i64 fu, .int .i64 ho, .int .i64 a3, .int .i64 ne, .int .i64 lo, .int .i64 hi, .bool u3, .int .i64 t3] 33 (0, 0))
            have hB7 := hB6.alloc hB6.size (.cells #[.int .i64 la, .int .i64 (c + 1), .int .i64 mi, .slice A4 m cp4, .int .i64 e1, .int .i64 n1, .int .i64 fe, .int .i64 fn, .int .i64 fu, .int .i64 ho, .int .i64 a3, .int .i64 ne, .int .i64 lo, .int .i64 hi, .bool u3, .int .i64 t3] 33 (0, 0))
            have hO7 := hO6.next (bel1 _ (.cells #[.int .i64 la, .int .i64 (c + 1), .int .i64 mi, .slice A4 m cp4, .int .i64 e1, .int .i64 n1, .int .i64 fe, .int .i64 fn, .int .i64 fu, .int .i64 ho, .int .i64 a3, .int .i64 ne, .int .i64 lo, .int .i64 hi, .bool u3, .int .i64 t3] 33 (0, 0)))
            have hY7 := hY6.next (bel1 _ (.cells #[.int .i64 la, .int .i64 (c + 1), .int .i64 mi, .slice A4 m cp4, .int .i64 e1, .int .i64 n1, .int .i64 fe, .int .i64 fn, .int .i64 fu, .int .i64 ho, .int .i64 a3, .int .i64 ne, .int .i64 lo, .int .i64 hi, .bool u3, .int .i64 t3] 33 (0, 0)))
            have zBD := hB6.size
            go_wp2_with (first | (refine wpList_load_row rfl 33 _ rfl _ rfl _ _ (0, 0) _ (by assumption) Tryz.underlying33 rfl (by kernel_rfl) ?_) | (refine wpList_load_rowG (by rfl) 33 _ rfl _ rfl _ _ (0, 0) _ (by assumption) Tryz.underlying33 rfl (by kernel_rfl) ?_))
            refine wp_region_held_drew (S := (fun w' => w'.heap[w1.heap.size]? = some (.cells #[.int .i64 la, .int .i64 dy, .int .i64 mi, .slice A m cp, .int .i64 e1, .int .i64 n1, .int .i64 fe, .int .i64 fn, .int .i64 fu, .int .i64 ho, .int .i64 ha, .int .i64 ne, .int .i64 lo, .int .i64 hi, .bool up, .int .i64 st] 33 (0, 0)) ∧ w'.heap[w2.heap.size]? = some (.cells #[.int .i64 la, .int .i64 d2, .int .i64 m2, .slice A2 m cp2, .int .i64 e1, .int .i64 n1, .int .i64 fe, .int .i64 fn, .int .i64 fu, .int .i64 ho, .int .i64 a2, .int .i64 ne, .int .i64 lo, .int .i64 hi, .bool u2, .int .i64 t2] 33 (0, 0)) ∧ w'.heap[w6.heap.size]? = some (.cells #[.int .i64 la, .int .i64 (c + 1), .int .i64 mi, .slice A4 m cp4, .int .i64 e1, .int .i64 n1, .int .i64 fe, .int .i64 fn, .int .i64 fu, .int .i64 ho, .int .i64 a3, .int .i64 ne, .int .i64 lo, .int .i64 hi, .bool u3, .int .i64 t3] 33 (0, 0)) ∧ SOwn encBlock w' w.heap.size 40 A cp xs ∧ SOwn encBlock w' w.heap.size 40 A2 cp2 xs ∧ Below w.heap.size w w')) (by kernel_rfl) ⟨hP7, hX7, hD7, hO7.drew, hY7.drew, hB7.drew⟩ (fun hHeld => ?_)
            obtain ⟨hP_0, hX_0, hD_0, hO_0, hY_0, hB_0⟩ := id hHeld
            refine wpAnyH_take (i := 0) (oi := _) (v := ?_) rfl (by kernel_rfl) (by kernel_rfl) (by kernel_rfl) (fun _ _ _ h => h) (Or.inl ⟨by rfl, ?_⟩) (by assumption) ?_
            (rotate_left); (focus (intro wv hSw; (obtain ⟨qP, qX, qD, qO, qY, qB⟩ := hSw); refine run_load_row9 33 ?x9_9 ?h9_9 _ ?e9_9 _ _ (0, 0) _ qP Tryz.underlying33 rfl (by kernel_rfl); (case h9_9 => rfl); (case e9_9 => rfl)))
            try simp only [Act.put, List.getElem_toArray, List.getElem_cons_succ, List.getElem_cons_zero, List.setIfInBounds_toArray, List.set_cons_zero, List.set_cons_succ]
            refine wpAnyH_take (i := 1) (oi := _) (v := ?_) rfl (by kernel_rfl) (by kernel_rfl) (by kernel_rfl) (fun _ _ _ h => h) (Or.inl ⟨by rfl, ?_⟩) (by assumption) ?_
            (rotate_left); (focus (intro wv hSw; (obtain ⟨qP, qX, qD, qO, qY, qB⟩ := hSw);  go_simp; (try with_reducible rfl)))
            try simp only [Act.put, List.getElem_toArray, List.getElem_cons_succ, List.getElem_cons_zero, List.setIfInBounds_toArray, List.set_cons_zero, List.set_cons_succ]
            refine wpAnyH_take (i := 3) (oi := _) (v := ?_) rfl (by kernel_rfl) (by kernel_rfl) (by kernel_rfl) (fun _ _ _ h => h) (Or.inl ⟨by rfl, ?_⟩) (by assumption) ?_
            (rotate_left); (focus (intro wv hSw; (obtain ⟨qP, qX, qD, qO, qY, qB⟩ := hSw);  go_simp; (try with_reducible rfl)))
            try simp only [Act.put, List.getElem_toArray, List.getElem_cons_succ, List.getElem_cons_zero, List.setIfInBounds_toArray, List.set_cons_zero, List.set_cons_succ]
            refine wpAnyH_take (i := 4) (oi := _) (v := ?_) rfl (by kernel_rfl) (by kernel_rfl) (by kernel_rfl) (fun _ _ _ h => h) (Or.inl ⟨by rfl, ?_⟩) (by assumption) ?_
            (rotate_left); (focus (intro wv hSw; (obtain ⟨qP, qX, qD, qO, qY, qB⟩ := hSw);  go_simp; (try with_reducible rfl)))
            try simp only [Act.put, List.getElem_toArray, List.getElem_cons_succ, List.getElem_cons_zero, List.setIfInBounds_toArray, List.set_cons_zero, List.set_cons_succ]
            refine wpAnyH_take (i := 5) (oi := _) (v := ?_) rfl (by kernel_rfl) (by kernel_rfl) (by kernel_rfl) (fun _ _ _ h => h) (Or.inl ⟨by rfl, ?_⟩) (by assumption) ?_
            (rotate_left); (focus (intro wv hSw; (obtain ⟨qP, qX, qD, qO, qY, qB⟩ := hSw);  go_simp; (try with_reducible rfl)))
            try simp only [Act.put, List.getElem_toArray, List.getElem_cons_succ, List.getElem_cons_zero, List.setIfInBounds_toArray, List.set_cons_zero, List.set_cons_succ]
            refine wpAnyH_take (i := 7) (oi := _) (v := ?_) rfl (by kernel_rfl) (by kernel_rfl) (by kernel_rfl) (fun _ _ _ h => h) (Or.inl ⟨by rfl, ?_⟩) (by assumption) ?_
            (rotate_left); (focus (intro wv hSw; (obtain ⟨qP, qX, qD, qO, qY, qB⟩ := hSw); refine run_load_row9 33 ?x9_10 ?h9_10 _ ?e9_10 _ _ (0, 0) _ qX Tryz.underlying33 rfl (by kernel_rfl); (case h9_10 => rfl); (case e9_10 => rfl)))
            try simp only [Act.put, List.getElem_toArray, List.getElem_cons_succ, List.getElem_cons_zero, List.setIfInBounds_toArray, List.set_cons_zero, List.set_cons_succ]
            refine wpAnyH_ready (rs := [2]) (by kernel_rfl) (by simp) ?_
            refine AllReadyH.cons (o := _) rfl (fun K hK => ?_) AllReadyH.nil
            go_simp
            (go_at_call 31; refine (iSTs_is la dy mi e1 n1 fe fn fu ho ha ne lo hi st up A cp xs _ HM.out hO_0.row hm2 HT1.out).mono ?_; rintro e x0c ⟨A5, cp5, rfl, hT_0c, hw_0c⟩)
            refine hK.out _ _ ⟨blk_next hP_0 hw_0c, blk_next hX_0 hw_0c, blk_next hD_0 hw_0c, hO_0.next hw_0c, hY_0.next hw_0c, bel_next hB_0 hw_0c⟩ (fun hHeld => ?_)
            clear hK K
            try simp only [Act.put, List.getElem_toArray, List.getElem_cons_succ, List.getElem_cons_zero, List.setIfInBounds_toArray, List.set_cons_zero, List.set_cons_succ]
            obtain ⟨hP_0c, hX_0c, hD_0c, hO_0c, hY_0c, hB_0c⟩ := id hHeld
            rw [HM.out]
            refine wpAnyH_ready (rs := [6]) (by kernel_rfl) (by simp) ?_
            refine AllReadyH.cons (o := _) rfl (fun K hK => ?_) AllReadyH.nil
            go_simp
            (go_at_call 31; refine (iSTs_is la d1 m1 e1 n1 fe fn fu ho a1 ne lo hi t1 u1 A5 cp5 xs _ HM.out hT_0c.row hm2 HT9.out).mono ?_; rintro e x0cc ⟨A6, cp6, rfl, hV_0cc, hw_0cc⟩)
            refine hK.out _ _ ⟨blk_next hP_0c hw_0cc, blk_next hX_0c hw_0cc, blk_next hD_0c hw_0cc, hO_0c.next hw_0cc, hY_0c.next hw_0cc, bel_next hB_0c hw_0cc⟩ (fun hHeld => ?_)
            clear hK K
            try simp only [Act.put, List.getElem_toArray, List.getElem_cons_succ, List.getElem_cons_zero, List.setIfInBounds_toArray, List.set_cons_zero, List.set_cons_succ]
            obtain ⟨hP_0cc, hX_0cc, hD_0cc, hO_0cc, hY_0cc, hB_0cc⟩ := id hHeld
            have hT_0cc := hT_0c.next hw_0cc
            rw [HM.out]
            refine wpAnyH_ready (rs := [8]) (by kernel_rfl) (by simp) ?_
            refine AllReadyH.cons (o := _) rfl (fun K hK => ?_) AllReadyH.nil
            go_simp
            (go_at_call 22; refine (sameSite_is la d2 m2 e1 n1 fe fn fu ho a2 ne lo hi t2 u2 A6 A2 cp6 cp2 xs HM.out hV_0cc.row hY_0cc.row hm2).mono ?_; rintro e x0ccc ⟨rfl, hw_0ccc⟩)
            refine hK.out _ _ ⟨blk_next hP_0cc hw_0ccc, blk_next hX_0cc hw_0ccc, blk_next hD_0cc hw_0ccc, hO_0cc.next hw_0ccc, hY_0cc.next hw_0ccc, bel_next hB_0cc hw_0ccc⟩ (fun hHeld => ?_)
            clear hK K
            try simp only [Act.put, List.getElem_toArray, List.getElem_cons_succ, List.getElem_cons_zero, List.setIfInBounds_toArray, List.set_cons_zero, List.set_cons_succ]
            obtain ⟨hP_0ccc, hX_0ccc, hD_0ccc, hO_0ccc, hY_0ccc, hB_0ccc⟩ := id hHeld
            have hT_0ccc := hT_0cc.next hw_0ccc
            have hV_0ccc := hV_0cc.next hw_0ccc
            refine wpAnyH_take (i := 9) (oi := _) (v := ?_) rfl (by kernel_rfl) (by kernel_rfl) (by kernel_rfl) (fun _ _ _ h => h) (Or.inl ⟨by rfl, ?_⟩) (by assumption) ?_
            (rotate_left); (focus (intro wv hSw; (obtain ⟨qP, qX, qD, qO, qY, qB⟩ := hSw);  go_simp; (try with_reducible rfl)))
            try simp only [Act.put, List.getElem_toArray, List.getElem_cons_succ, List.getElem_cons_zero, List.setIfInBounds_toArray, List.set_cons_zero, List.set_cons_succ]
            refine wpAnyH_take (i := 10) (oi := _) (v := ?_) rfl (by kernel_rfl) (by kernel_rfl) (by kernel_rfl) (fun _ _ _ h => h) (Or.inl ⟨by rfl, ?_⟩) (by assumption) ?_
            (rotate_left); (focus (intro wv hSw; (obtain ⟨qP, qX, qD, qO, qY, qB⟩ := hSw);  go_simp; (try with_reducible rfl)))
            try simp only [Act.put, List.getElem_toArray, List.getElem_cons_succ, List.getElem_cons_zero, List.setIfInBounds_toArray, List.set_cons_zero, List.set_cons_succ]
            refine wpAnyH_take (i := 11) (oi := _) (v := ?_) rfl (by kernel_rfl) (by kernel_rfl) (by kernel_rfl) (fun _ _ _ h => h) (Or.inl ⟨by rfl, ?_⟩) (by assumption) ?_
            (rotate_left); (focus (intro wv hSw; (obtain ⟨qP, qX, qD, qO, qY, qB⟩ := hSw); obtain ⟨_, _, _, _, _, _, _, _, _, _, _, _, _, _, _, _, _, _, _, _, _, _, _, _, _, _, _, _, _, _, _, _, _⟩ := blk16 qD; go_simp; (try with_reducible rfl)))
            try simp only [Act.put, List.getElem_toArray, List.getElem_cons_succ, List.getElem_cons_zero, List.setIfInBounds_toArray, List.set_cons_zero, List.set_cons_succ]
            refine wpAnyH_take (i := 12) (oi := _) (v := ?_) rfl (by kernel_rfl) (by kernel_rfl) (by kernel_rfl) (fun _ _ _ h => h) (Or.inl ⟨by rfl, ?_⟩) (by assumption) ?_
            (rotate_left); (focus (intro wv hSw; (obtain ⟨qP, qX, qD, qO, qY, qB⟩ := hSw);  go_simp; (try with_reducible rfl)))
            try simp only [Act.put, List.getElem_toArray, List.getElem_cons_succ, List.getElem_cons_zero, List.setIfInBounds_toArray, List.set_cons_zero, List.set_cons_succ]
            refine wpAnyH_take (i := 13) (oi := _) (v := ?_) rfl (by kernel_rfl) (by kernel_rfl) (by kernel_rfl) (fun _ _ _ h => h) (Or.inl ⟨by rfl, ?_⟩) (by assumption) ?_
            (rotate_left); (focus (intro wv hSw; (obtain ⟨qP, qX, qD, qO, qY, qB⟩ := hSw); obtain ⟨_, _, _, _, _, _, _, _, _, _, _, _, _, _, _, _, _, _, _, _, _, _, _, _, _, _, _, _, _, _, _, _, _⟩ := blk16 qP; go_simp; (try with_reducible rfl)))
            try simp only [Act.put, List.getElem_toArray, List.getElem_cons_succ, List.getElem_cons_zero, List.setIfInBounds_toArray, List.set_cons_zero, List.set_cons_succ]
            refine wpAnyH_take (i := 14) (oi := _) (v := ?_) rfl (by kernel_rfl) (by kernel_rfl) (by kernel_rfl) (fun _ _ _ h => h) (Or.inl ⟨by rfl, ?_⟩) (by assumption) ?_
            (rotate_left); (focus (intro wv hSw; (obtain ⟨qP, qX, qD, qO, qY, qB⟩ := hSw);  go_simp; (try with_reducible rfl)))
            try simp only [Act.put, List.getElem_toArray, List.getElem_cons_succ, List.getElem_cons_zero, List.setIfInBounds_toArray, List.set_cons_zero, List.set_cons_succ]
            refine wpAnyH_take (i := 15) (oi := _) (v := ?_) rfl (by kernel_rfl) (by kernel_rfl) (by kernel_rfl) (fun _ _ _ h => h) (Or.inl ⟨by rfl, ?_⟩) (by assumption) ?_
            (rotate_left); (focus (intro wv hSw; (obtain ⟨qP, qX, qD, qO, qY, qB⟩ := hSw);  go_simp; (try with_reducible rfl)))
            try simp only [Act.put, List.getElem_toArray, List.getElem_cons_succ, List.getElem_cons_zero, List.setIfInBounds_toArray, List.set_cons_zero, List.set_cons_succ]
            refine wpAnyH_take (i := 16) (oi := _) (v := ?_) rfl (by kernel_rfl) (by kernel_rfl) (by kernel_rfl) (fun _ _ _ h => h) (Or.inl ⟨by rfl, ?_⟩) (by assumption) ?_
            (rotate_left); (focus (intro wv hSw; (obtain ⟨qP, qX, qD, qO, qY, qB⟩ := hSw);  go_simp; (try with_reducible rfl)))
            try simp only [Act.put, List.getElem_toArray, List.getElem_cons_succ, List.getElem_cons_zero, List.setIfInBounds_toArray, List.set_cons_zero, List.set_cons_succ]
            refine wpAnyH_take (i := 17) (oi := _) (v := ?_) rfl (by kernel_rfl) (by kernel_rfl) (by kernel_rfl) (fun _ _ _ h => h) (Or.inl ⟨by rfl, ?_⟩) (by assumption) ?_
            (rotate_left); (focus (intro wv hSw; (obtain ⟨qP, qX, qD, qO, qY, qB⟩ := hSw);  go_simp; (try with_reducible rfl)))
            try simp only [Act.put, List.getElem_toArray, List.getElem_cons_succ, List.getElem_cons_zero, List.setIfInBounds_toArray, List.set_cons_zero, List.set_cons_succ]
            refine wpAnyH_take (i := 18) (oi := _) (v := ?_) rfl (by kernel_rfl) (by kernel_rfl) (by kernel_rfl) (fun _ _ _ h => h) (Or.inl ⟨by rfl, ?_⟩) (by assumption) ?_
            (rotate_left); (focus (intro wv hSw; (obtain ⟨qP, qX, qD, qO, qY, qB⟩ := hSw); obtain ⟨_, _, _, _, _, _, _, _, _, _, _, _, _, _, _, _, _, _, _, _, _, _, _, _, _, _, _, _, _, _, _, _, _⟩ := blk16 qD; go_simp; (try with_reducible rfl)))
            try simp only [Act.put, List.getElem_toArray, List.getElem_cons_succ, List.getElem_cons_zero, List.setIfInBounds_toArray, List.set_cons_zero, List.set_cons_succ]
            refine wpAnyH_take (i := 19) (oi := _) (v := ?_) rfl (by kernel_rfl) (by kernel_rfl) (by kernel_rfl) (fun _ _ _ h => h) (Or.inl ⟨by rfl, ?_⟩) (by assumption) ?_
            (rotate_left); (focus (intro wv hSw; (obtain ⟨qP, qX, qD, qO, qY, qB⟩ := hSw);  go_simp; (try with_reducible rfl)))
            try simp only [Act.put, List.getElem_toArray, List.getElem_cons_succ, List.getElem_cons_zero, List.setIfInBounds_toArray, List.set_cons_zero, List.set_cons_succ]
            refine wpAnyH_take (i := 20) (oi := _) (v := ?_) rfl (by kernel_rfl) (by kernel_rfl) (by kernel_rfl) (fun _ _ _ h => h) (Or.inl ⟨by rfl, ?_⟩) (by assumption) ?_
            (rotate_left); (focus (intro wv hSw; (obtain ⟨qP, qX, qD, qO, qY, qB⟩ := hSw); obtain ⟨_, _, _, _, _, _, _, _, _, _, _, _, _, _, _, _, _, _, _, _, _, _, _, _, _, _, _, _, _, _, _, _, _⟩ := blk16 qP; go_simp; (try with_reducible rfl)))
            try simp only [Act.put, List.getElem_toArray, List.getElem_cons_succ, List.getElem_cons_zero, List.setIfInBounds_toArray, List.set_cons_zero, List.set_cons_succ]
            refine wpAnyH_take (i := 21) (oi := _) (v := ?_) rfl (by kernel_rfl) (by kernel_rfl) (by kernel_rfl) (fun _ _ _ h => h) (Or.inl ⟨by rfl, ?_⟩) (by assumption) ?_
            (rotate_left); (focus (intro wv hSw; (obtain ⟨qP, qX, qD, qO, qY, qB⟩ := hSw);  go_simp; (try with_reducible rfl)))
            try simp only [Act.put, List.getElem_toArray, List.getElem_cons_succ, List.getElem_cons_zero, List.setIfInBounds_toArray, List.set_cons_zero, List.set_cons_succ]
            refine wpAnyH_take (i := 22) (oi := _) (v := ?_) rfl (by kernel_rfl) (by kernel_rfl) (by kernel_rfl) (fun _ _ _ h => h) (Or.inl ⟨by rfl, ?_⟩) (by assumption) ?_
            (rotate_left); (focus (intro wv hSw; (obtain ⟨qP, qX, qD, qO, qY, qB⟩ := hSw);  go_simp; (try with_reducible rfl)))
            try simp only [Act.put, List.getElem_toArray, List.getElem_cons_succ, List.getElem_cons_zero, List.setIfInBounds_toArray, List.set_cons_zero, List.set_cons_succ]
            refine wpAnyH_take (i := 23) (oi := _) (v := ?_) rfl (by kernel_rfl) (by kernel_rfl) (by kernel_rfl) (fun _ _ _ h => h) (Or.inl ⟨by rfl, ?_⟩) (by assumption) ?_
            (rotate_left); (focus (intro wv hSw; (obtain ⟨qP, qX, qD, qO, qY, qB⟩ := hSw);  go_simp; (try with_reducible rfl)))
            try simp only [Act.put, List.getElem_toArray, List.getElem_cons_succ, List.getElem_cons_zero, List.setIfInBounds_toArray, List.set_cons_zero, List.set_cons_succ]
            refine wpAnyH_take (i := 24) (oi := _) (v := ?_) rfl (by kernel_rfl) (by kernel_rfl) (by kernel_rfl) (fun _ _ _ h => h) (Or.inl ⟨by rfl, ?_⟩) (by assumption) ?_
            (rotate_left); (focus (intro wv hSw; (obtain ⟨qP, qX, qD, qO, qY, qB⟩ := hSw);  go_simp; (try with_reducible rfl)))
            try simp only [Act.put, List.getElem_toArray, List.getElem_cons_succ, List.getElem_cons_zero, List.setIfInBounds_toArray, List.set_cons_zero, List.set_cons_succ]
            refine wpAnyH_take (i := 25) (oi := _) (v := ?_) rfl (by kernel_rfl) (by kernel_rfl) (by kernel_rfl) (fun _ _ _ h => h) (Or.inl ⟨by rfl, ?_⟩) (by assumption) ?_
            (rotate_left); (focus (intro wv hSw; (obtain ⟨qP, qX, qD, qO, qY, qB⟩ := hSw);  go_simp; (try with_reducible rfl)))
            try simp only [Act.put, List.getElem_toArray, List.getElem_cons_succ, List.getElem_cons_zero, List.setIfInBounds_toArray, List.set_cons_zero, List.set_cons_succ]
            refine wpAnyH_take (i := 26) (oi := _) (v := ?_) rfl (by kernel_rfl) (by kernel_rfl) (by kernel_rfl) (fun _ _ _ h => h) (Or.inl ⟨by rfl, ?_⟩) (by assumption) ?_
            (rotate_left); (focus (intro wv hSw; (obtain ⟨qP, qX, qD, qO, qY, qB⟩ := hSw); refine run_load_row9 33 ?x9_11 ?h9_11 _ ?e9_11 _ _ (0, 0) _ qX Tryz.underlying33 rfl (by kernel_rfl); (case h9_11 => rfl); (case e9_11 => rfl)))
            try simp only [Act.put, List.getElem_toArray, List.getElem_cons_succ, List.getElem_cons_zero, List.setIfInBounds_toArray, List.set_cons_zero, List.set_cons_succ]
            refine wpAnyH_take (i := 28) (oi := _) (v := ?_) rfl (by kernel_rfl) (by kernel_rfl) (by kernel_rfl) (fun _ _ _ h => h) (Or.inl ⟨by rfl, ?_⟩) (by assumption) ?_
            (rotate_left); (focus (intro wv hSw; (obtain ⟨qP, qX, qD, qO, qY, qB⟩ := hSw); refine run_load_row9 33 ?x9_12 ?h9_12 _ ?e9_12 _ _ (0, 0) _ qP Tryz.underlying33 rfl (by kernel_rfl); (case h9_12 => rfl); (case e9_12 => rfl)))
            try simp only [Act.put, List.getElem_toArray, List.getElem_cons_succ, List.getElem_cons_zero, List.setIfInBounds_toArray, List.set_cons_zero, List.set_cons_succ]
            refine wpAnyH_take (i := 30) (oi := _) (v := ?_) rfl (by kernel_rfl) (by kernel_rfl) (by kernel_rfl) (fun _ _ _ h => h) (Or.inl ⟨by rfl, ?_⟩) (by assumption) ?_
            (rotate_left); (focus (intro wv hSw; (obtain ⟨qP, qX, qD, qO, qY, qB⟩ := hSw);  go_simp; (try with_reducible rfl)))
            try simp only [Act.put, List.getElem_toArray, List.getElem_cons_succ, List.getElem_cons_zero, List.setIfInBounds_toArray, List.set_cons_zero, List.set_cons_succ]
            refine wpAnyH_ready (rs := [27]) (by kernel_rfl) (by simp) ?_
            refine AllReadyH.cons (o := _) rfl (fun K hK => ?_) AllReadyH.nil
            go_simp
            (go_at_call 28; refine (quarterOf_is la d2 m2 e1 n1 fe fn fu ho a2 ne lo hi t2 u2 A2 m cp2 _ z0 z1 z2 z3 HQ2.out).mono ?_; rintro e x0cccc ⟨rfl, hw_0cccc⟩)
            refine hK.out _ _ ⟨blk_next hP_0ccc hw_0cccc, blk_next hX_0ccc hw_0cccc, blk_next hD_0ccc hw_0cccc, hO_0ccc.next hw_0cccc, hY_0ccc.next hw_0cccc, bel_next hB_0ccc hw_0cccc⟩ (fun hHeld => ?_)
            clear hK K
            try simp only [Act.put, List.getElem_toArray, List.getElem_cons_succ, List.getElem_cons_zero, List.setIfInBounds_toArray, List.set_cons_zero, List.set_cons_succ]
            obtain ⟨hP_0cccc, hX_0cccc, hD_0cccc, hO_0cccc, hY_0cccc, hB_0cccc⟩ := id hHeld
            have hT_0cccc := hT_0ccc.next hw_0cccc
            have hV_0cccc := hV_0ccc.next hw_0cccc
            refine wpAnyH_ready (rs := [29]) (by kernel_rfl) (by simp) ?_
            refine AllReadyH.cons (o := _) rfl (fun K hK => ?_) AllReadyH.nil
            go_simp
            (go_at_call 28; refine (quarterOf_is la dy mi e1 n1 fe fn fu ho ha ne lo hi st up A m cp _ y0 y1 y2 y3 HQ0.out).mono ?_; rintro e x0ccccc ⟨rfl, hw_0ccccc⟩)
            refine hK.out _ _ ⟨blk_next hP_0cccc hw_0ccccc, blk_next hX_0cccc hw_0ccccc, blk_next hD_0cccc hw_0ccccc, hO_0cccc.next hw_0ccccc, hY_0cccc.next hw_0ccccc, bel_next hB_0cccc hw_0ccccc⟩ (fun hHeld => ?_)
            clear hK K
            try simp only [Act.put, List.getElem_toArray, List.getElem_cons_succ, List.getElem_cons_zero, List.setIfInBounds_toArray, List.set_cons_zero, List.set_cons_succ]
            obtain ⟨hP_0ccccc, hX_0ccccc, hD_0ccccc, hO_0ccccc, hY_0ccccc, hB_0ccccc⟩ := id hHeld
            have hT_0ccccc := hT_0cccc.next hw_0ccccc
            have hV_0ccccc := hV_0cccc.next hw_0ccccc
            refine wpAnyH_take (i := 31) (oi := _) (v := ?_) rfl (by kernel_rfl) (by kernel_rfl) (by kernel_rfl) (fun _ _ _ h => h) (Or.inl ⟨by rfl, ?_⟩) (by assumption) ?_
            (rotate_left); (focus (intro wv hSw; (obtain ⟨qP, qX, qD, qO, qY, qB⟩ := hSw);  go_simp; (try with_reducible rfl)))
            try simp only [Act.put, List.getElem_toArray, List.getElem_cons_succ, List.getElem_cons_zero, List.setIfInBounds_toArray, List.set_cons_zero, List.set_cons_succ]
            refine wpAnyH_take (i := 32) (oi := _) (v := ?_) rfl (by kernel_rfl) (by kernel_rfl) (by kernel_rfl) (fun _ _ _ h => h) (Or.inl ⟨by rfl, ?_⟩) (by assumption) ?_
            (rotate_left); (focus (intro wv hSw; (obtain ⟨qP, qX, qD, qO, qY, qB⟩ := hSw);  go_simp; (try with_reducible rfl)))
            try simp only [Act.put, List.getElem_toArray, List.getElem_cons_succ, List.getElem_cons_zero, List.setIfInBounds_toArray, List.set_cons_zero, List.set_cons_succ]
            refine wpAnyH_take (i := 33) (oi := _) (v := ?_) rfl (by kernel_rfl) (by kernel_rfl) (by kernel_rfl) (fun _ _ _ h => h) (Or.inl ⟨by rfl, ?_⟩) (by assumption) ?_
            (rotate_left); (focus (intro wv hSw; (obtain ⟨qP, qX, qD, qO, qY, qB⟩ := hSw);  go_simp; (try with_reducible rfl)))
            try simp only [Act.put, List.getElem_toArray, List.getElem_cons_succ, List.getElem_cons_zero, List.setIfInBounds_toArray, List.set_cons_zero, List.set_cons_succ]
            refine wpAnyH_take (i := 34) (oi := _) (v := ?_) rfl (by kernel_rfl) (by kernel_rfl) (by kernel_rfl) (fun _ _ _ h => h) (Or.inl ⟨by rfl, ?_⟩) (by assumption) ?_
            (rotate_left); (focus (intro wv hSw; (obtain ⟨qP, qX, qD, qO, qY, qB⟩ := hSw);  go_simp; (try with_reducible rfl)))
            try simp only [Act.put, List.getElem_toArray, List.getElem_cons_succ, List.getElem_cons_zero, List.setIfInBounds_toArray, List.set_cons_zero, List.set_cons_succ]
            refine wpAnyH_take (i := 35) (oi := _) (v := ?_) rfl (by kernel_rfl) (by kernel_rfl) (by kernel_rfl) (fun _ _ _ h => h) (Or.inl ⟨by rfl, ?_⟩) (by assumption) ?_
            (rotate_left); (focus (intro wv hSw; (obtain ⟨qP, qX, qD, qO, qY, qB⟩ := hSw);  go_simp; (try with_reducible rfl)))
            try simp only [Act.put, List.getElem_toArray, List.getElem_cons_succ, List.getElem_cons_zero, List.setIfInBounds_toArray, List.set_cons_zero, List.set_cons_succ]
            refine wpAnyH_done (by kernel_rfl) ?_ _
            go_wp2_with (first | (refine wpList_load_row rfl 33 _ rfl _ rfl _ _ (0, 0) _ (by assumption) Tryz.underlying33 rfl (by kernel_rfl) ?_) | (refine wpList_load_rowG (by rfl) 33 _ rfl _ rfl _ _ (0, 0) _ (by assumption) Tryz.underlying33 rfl (by kernel_rfl) ?_))
            go_ret
            exact ⟨rfl, hB_0ccccc⟩
set_option maxRecDepth 100000 in
theorem lifted (os : Os) (started : os.Started) (H : Type) (enc : TypeId × Value → H) :
    ReturnsInHanded {} Tryz.checked os 6 .any (Rows.fnSiteTicksSpec.pre6 enc Tryz.prog Tryz.f6 Rows.fnSiteTicksRow.domain false) (Rows.fnSiteTicksSpec.post enc Tryz.prog Tryz.f6 false true false false) := by
  refine returnsInHanded_of_change (C := Tryz.checked) own started (by kernel_rfl) Tryz.func6
    (ChangeSpec.witness6 (enc := enc) (C := Tryz.checked) false ⟨#[], #[.slice none 0 0], []⟩ 8 (by kernel_rfl) (by kernel_rfl) (by kernel_rfl) (by kernel_rfl)) ?_
  intro W base args ds gs before hval0 hW hcnd _
  have hval : ∀ (j : Nat) t v, Tryz.f6.params[j]? = some t → args[j]? = some v → Value.okWide Tryz.prog W .any base t v := hval0
  have hW' := hW
  obtain ⟨p, q, hA0, hV, rfl, hfz, hnd⟩ := hW
  have hA : DataW.TrodAll enc Tryz.prog W 0 (fun _ => true) true Tryz.f6.params.toList args.toList ds p := hA0
  rw [Tryz.params6] at hA hval
  obtain ⟨v0, vs0, d0, ds0, p0, q0, hargs, rfl, rfl, h0, r0⟩ := trodAll_cons hA
  obtain ⟨rfl, rfl, rfl⟩ := trodAll_nil r0
  obtain rfl : args = #[v0] := by cases args; simp_all
  obtain ⟨rfl, rfl⟩ := trodVars_none hV
  have k0 := h0
  have lt0 : ∀ x ∈ p0, x.block < W.heap.size := by obtain ⟨m, hm⟩ := k0; exact DataW.trod_lt m _ _ _ hm
  obtain ⟨a0, len0, cap0, rfl⟩ := okWide_slice Tryz.underlying22 (hval 0 22 v0 rfl rfl)
  have w0 : CodeOk W a0 len0 cap0 := by
    obtain ⟨fuel, hf⟩ := h0
    rcases open_ints Tryz.underlying22 Tryz.underlying5 (by kernel_rfl) hf with ⟨hcs, _⟩ | ⟨x, l, c, zs, hcs, _, hl, hm, hz, _, hcell, hwz⟩
    · simp [Value.cells] at hcs
      obtain ⟨rfl, rfl, rfl⟩ := hcs
      exact code_nil W
    · simp [Value.cells] at hcs
      obtain ⟨rfl, rfl, rfl⟩ := hcs
      exact code_ok hl hm (by simp at hz; omega) hcell hwz
  clear hA0 hval0
  refine (walk W a0 len0 cap0 w0).mono fun e W' ⟨he, bel⟩ => ?_
  subst he
  exact ⟨_, rfl, _, _, _, [], _, [], hW', trodAll_mk1 (shut_bool Tryz.underlying4 _), (trodAll_cons_mk (Below.trod laidOut (by kernel_rfl) (of_decide_eq_true (by kernel_rfl)) k0 bel lt0) trodAll_mk0), rfl, bel.frame _, fun h => by cases h⟩
theorem over : Rows.fnSiteTicksRow.holds Tryz.pinned (OpenSpec.ofChange Rows.fnSiteTicksSpec) :=
  OpenClaim.holds_of_wide 6 Tryz.f6 rfl rfl rfl rfl rfl rfl rfl ⟨rfl, rfl, rfl, rfl, rfl⟩ rfl rfl rfl rfl rfl (by kernel_rfl) Tryz.func6 (by kernel_rfl)
    (of_decide_eq_true (by kernel_rfl)) (by unfold Func.isWrapper; first | (rw [if_pos (by decide +kernel)]; kernel_rfl) | (rw [if_neg (by decide +kernel)]; exact ⟨rfl, rfl⟩))
    (fun os started H enc _ => lifted os started H enc)
/-- The statement. -/
theorem proved : Rows.FnSiteTicksSaid :=
  over
#print axioms proved
end Go.Proofs.YtbklgpghonigjaaGreat.fnSiteTicks
