/- FnSiteTick: whatever the input, the law returns true, and its arguments read as they did. No conditions beyond those of the statement's row. -/
import Derived.Laws.Rows
import Derived.Test.YtbklgpghonigjaaGreatMEs
import Derived.Test.YtbklgpghonigjaaGreatMEp
import Derived.Test.YtbklgpghonigjaaGreatMQM
import Derived.Test.YtbklgpghonigjaaGreatMQH
import Derived.Test.YtbklgpghonigjaaGreatMQN
namespace Go.Proofs.YtbklgpghonigjaaGreat.fnSiteTick
open Go.Proofs.YtbklgpghonigjaaGreat
open Go Go.RowKit
open Go.ChangeShapes Go.WideShapes Go.ChangeAt Go.RowKit Go.Joins
set_option linter.unusedVariables false
set_option linter.unusedSimpArgs false
set_option linter.unnecessarySimpa false
theorem own : ownKnob Tryz.prog.godebug = none := by kernel_rfl
theorem laidOut : laidOutB Tryz.prog = true := by kernel_rfl
set_option maxRecDepth 100000 in
set_option maxHeartbeats 40000000 in
theorem walk (w : World) (a0 : Option Addr) (len0 cap0 : Nat) (w0 : CodeOk w a0 len0 cap0) :
    Calls Tryz.prog 5 #[.slice a0 len0 cap0] w fun e w' => e = .returned (.bool true) ∧ Below w.heap.size w w' := by
  by_cases hl : 1048576 < len0
  · have w0' := w0.2.1
    unfold maxLen at w0'
    clear w0
    go_enter Tryz.func5, Tryz.ntmps5
    go_wp2_with (first | (refine wpList_load_row rfl 33 _ rfl _ rfl _ _ (0, 0) _ (by assumption) Tryz.underlying33 rfl (by kernel_rfl) ?_) | (refine wpList_load_rowG (by rfl) 33 _ rfl _ rfl _ _ (0, 0) _ (by assumption) Tryz.underlying33 rfl (by kernel_rfl) ?_))
    go_ret
    exact ⟨rfl, Below.refl _ _⟩
  · have w0' := w0.2.1
    unfold maxLen at w0'
    have hle := w0.1
    have HW := Lib.hid w0
    clear w0
    go_enter Tryz.func5, Tryz.ntmps5
    go_wp2_with (first | (refine wpList_load_row rfl 33 _ rfl _ rfl _ _ (0, 0) _ (by assumption) Tryz.underlying33 rfl (by kernel_rfl) ?_) | (refine wpList_load_rowG (by rfl) 33 _ rfl _ rfl _ _ (0, 0) _ (by assumption) Tryz.underlying33 rfl (by kernel_rfl) ?_))
    refine (drSiteTick_any _ _ _ _ HW.out).mono ?_; rintro e w1 ⟨la, dy, mi, e1, n1, fe, fn, fu, ho, ha, ne, lo, hi, st, up, xs, A, cp, rfl, hho, hx6, hO0, hB0⟩
    obtain ⟨m, hm⟩ : ∃ m, xs.length = m := ⟨_, rfl⟩
    rw [hm] at hx6 ⊢
    have HM := Lib.hid hm
    clear hm
    cases hv : siB la dy mi e1 n1 fe fn fu ho ha ne lo hi st xs
    · have HT : Hid (siT la dy mi e1 n1 fe fn fu ho ha ne lo hi st up xs 1 = siZ) := Lib.hid (siT_no (.inl hv))
      have HV := Lib.hid hv
      clear hv
      have hP1 : (w1.alloc (.cells #[.int .i64 la, .int .i64 dy, .int .i64 mi, .slice A m cp, .int .i64 e1, .int .i64 n1, .int .i64 fe, .int .i64 fn, .int .i64 fu, .int .i64 ho, .int .i64 ha, .int .i64 ne, .int .i64 lo, .int .i64 hi, .bool up, .int .i64 st] 33 (0, 0))).heap[w1.heap.size]? = some (.cells #[.int .i64 la, .int .i64 dy, .int .i64 mi, .slice A m cp, .int .i64 e1, .int .i64 n1, .int .i64 fe, .int .i64 fn, .int .i64 fu, .int .i64 ho, .int .i64 ha, .int .i64 ne, .int .i64 lo, .int .i64 hi, .bool up, .int .i64 st] 33 (0, 0)) := by have := blk_new (w1) (.cells #[.int .i64 la, .int .i64 dy, .int .i64 mi, .slice A m cp, .int .i64 e1, .int .i64 n1, .int .i64 fe, .int .i64 fn, .int .i64 fu, .int .i64 ho, .int .i64 ha, .int .i64 ne, .int .i64 lo, .int .i64 hi, .bool up, .int .i64 st] 33 (0, 0)); simpa using this
      have hB1 := hB0.alloc hB0.size (.cells #[.int .i64 la, .int .i64 dy, .int .i64 mi, .slice A m cp, .int .i64 e1, .int .i64 n1, .int .i64 fe, .int .i64 fn, .int .i64 fu, .int .i64 ho, .int .i64 ha, .int .i64 ne, .int .i64 lo, .int .i64 hi, .bool up, .int .i64 st] 33 (0, 0))
      have hO1 := hO0.next (bel1 _ (.cells #[.int .i64 la, .int .i64 dy, .int .i64 mi, .slice A m cp, .int .i64 e1, .int .i64 n1, .int .i64 fe, .int .i64 fn, .int .i64 fu, .int .i64 ho, .int .i64 ha, .int .i64 ne, .int .i64 lo, .int .i64 hi, .bool up, .int .i64 st] 33 (0, 0)))
      have zBP := hB0.size
      go_wp2_with (first | (refine wpList_load_row rfl 33 _ rfl _ rfl _ _ (0, 0) _ (by assumption) Tryz.underlying33 rfl (by kernel_rfl) ?_) | (refine wpList_load_rowG (by rfl) 33 _ rfl _ rfl _ _ (0, 0) _ (by assumption) Tryz.underlying33 rfl (by kernel_rfl) ?_))
      refine (iST_is la dy mi e1 n1 fe fn fu ho ha ne lo hi st up A cp xs _ HM.out hO1.row (by omega) HT.out).mono ?_; rintro e' w2 ⟨A2, cp2, rfl, hY2, hw2⟩
      have hP2 := blk_next hP1 hw2
      have hO2 := hO1.next hw2
      have hB2 := bel_next hB1 hw2
      have hY2 := hY2.mono (base' := w.heap.size) hB1.size
      simp only [List.length_nil]
      have zPX := blk_lt hP2
      have hX3 : (w2.alloc (.cells #[.int .i64 0, .int .i64 0, .int .i64 0, .slice A2 0 cp2, .int .i64 0, .int .i64 0, .int .i64 0, .int .i64 0, .int .i64 0, .int .i64 0, .int .i64 0, .int .i64 0, .int .i64 0, .int .i64 0, .bool false, .int .i64 0] 33 (0, 0))).heap[w2.heap.size]? = some (.cells #[.int .i64 0, .int .i64 0, .int .i64 0, .slice A2 0 cp2, .int .i64 0, .int .i64 0, .int .i64 0, .int .i64 0, .int .i64 0, .int .i64 0, .int .i64 0, .int .i64 0, .int .i64 0, .int .i64 0, .bool false, .int .i64 0] 33 (0, 0)) := by have := blk_new (w2) (.cells #[.int .i64 0, .int .i64 0, .int .i64 0, .slice A2 0 cp2, .int .i64 0, .int .i64 0, .int .i64 0, .int .i64 0, .int .i64 0, .int .i64 0, .int .i64 0, .int .i64 0, .int .i64 0, .int .i64 0, .bool false, .int .i64 0] 33 (0, 0)); simpa using this
      have hP3 := blk_old hP2 (.cells #[.int .i64 0, .int .i64 0, .int .i64 0, .slice A2 0 cp2, .int .i64 0, .int .i64 0, .int .i64 0, .int .i64 0, .int .i64 0, .int .i64 0, .int .i64 0, .int .i64 0, .int .i64 0, .int .i64 0, .bool false, .int .i64 0] 33 (0, 0))
      have hB3 := hB2.alloc hB2.size (.cells #[.int .i64 0, .int .i64 0, .int .i64 0, .slice A2 0 cp2, .int .i64 0, .int .i64 0, .int .i64 0, .int .i64 0, .int .i64 0, .int .i64 0, .int .i64 0, .int .i64 0, .int .i64 0, .int .i64 0, .bool false, .int .i64 0] 33 (0, 0))
      have hO3 := hO2.next (bel1 _ (.cells #[.int .i64 0, .int .i64 0, .int .i64 0, .slice A2 0 cp2, .int .i64 0, .int .i64 0, .int .i64 0, .int .i64 0, .int .i64 0, .int .i64 0, .int .i64 0, .int .i64 0, .int .i64 0, .int .i64 0, .bool false, .int .i64 0] 33 (0, 0)))
      have hY3 := hY2.next (bel1 _ (.cells #[.int .i64 0, .int .i64 0, .int .i64 0, .slice A2 0 cp2, .int .i64 0, .int .i64 0, .int .i64 0, .int .i64 0, .int .i64 0, .int .i64 0, .int .i64 0, .int .i64 0, .int .i64 0, .int .i64 0, .bool false, .int .i64 0] 33 (0, 0)))
      have zBX := hB2.size
      go_wp2_with (first | (refine wpList_load_row rfl 33 _ rfl _ rfl _ _ (0, 0) _ (by assumption) Tryz.underlying33 rfl (by kernel_rfl) ?_) | (refine wpList_load_rowG (by rfl) 33 _ rfl _ rfl _ _ (0, 0) _ (by assumption) Tryz.underlying33 rfl (by kernel_rfl) ?_))
      refine wp_region_held_drew (S := (fun w' => w'.heap[w1.heap.size]? = some (.cells #[.int .i64 la, .int .i64 dy, .int .i64 mi, .slice A m cp, .int .i64 e1, .int .i64 n1, .int .i64 fe, .int .i64 fn, .int .i64 fu, .int .i64 ho, .int .i64 ha, .int .i64 ne, .int .i64 lo, .int .i64 hi, .bool up, .int .i64 st] 33 (0, 0)) ∧ w'.heap[w2.heap.size]? = some (.cells #[.int .i64 0, .int .i64 0, .int .i64 0, .slice A2 0 cp2, .int .i64 0, .int .i64 0, .int .i64 0, .int .i64 0, .int .i64 0, .int .i64 0, .int .i64 0, .int .i64 0, .int .i64 0, .int .i64 0, .bool false, .int .i64 0] 33 (0, 0)) ∧ SOwn encBlock w' w.heap.size 40 A cp xs ∧ SOwn encBlock w' w.heap.size 40 A2 cp2 [] ∧ Below w.heap.size w w')) (by kernel_rfl) ⟨hP3, hX3, hO3.drew, hY3.drew, hB3.drew⟩ (fun hHeld => ?_)
      obtain ⟨hP_0, hX_0, hO_0, hY_0, hB_0⟩ := id hHeld
      refine wpAnyH_take (i := 0) (oi := _) (v := ?_) rfl (by kernel_rfl) (by kernel_rfl) (by kernel_rfl) (fun _ _ _ h => h) (Or.inl ⟨by rfl, ?_⟩) (by assumption) ?_
      (rotate_left); (focus (intro wv hSw; (obtain ⟨qP, qX, qO, qY, qB⟩ := hSw); refine run_load_row9 33 ?x9_1 ?h9_1 _ ?e9_1 _ _ (0, 0) _ qX Tryz.underlying33 rfl (by kernel_rfl); (case h9_1 => rfl); (case e9_1 => rfl)))
      try simp only [Act.put, List.getElem_toArray, List.getElem_cons_succ, List.getElem_cons_zero, List.setIfInBounds_toArray, List.set_cons_zero, List.set_cons_succ]
      refine wpAnyH_take (i := 1) (oi := _) (v := ?_) rfl (by kernel_rfl) (by kernel_rfl) (by kernel_rfl) (fun _ _ _ h => h) (Or.inl ⟨by rfl, ?_⟩) (by assumption) ?_
      (rotate_left); (focus (intro wv hSw; (obtain ⟨qP, qX, qO, qY, qB⟩ := hSw); refine run_load_row9 33 ?x9_2 ?h9_2 _ ?e9_2 _ _ (0, 0) _ qP Tryz.underlying33 rfl (by kernel_rfl); (case h9_2 => rfl); (case e9_2 => rfl)))
      try simp only [Act.put, List.getElem_toArray, List.getElem_cons_succ, List.getElem_cons_zero, List.setIfInBounds_toArray, List.set_cons_zero, List.set_cons_succ]
      refine wpAnyH_ready (rs := [2]) (by kernel_rfl) (by simp) ?_
      refine AllReadyH.cons (o := _) rfl (fun K hK => ?_) AllReadyH.nil
      go_simp
      (go_at_call 23; refine (sST_is la dy mi e1 n1 fe fn fu ho ha ne lo hi st up A cp xs _ HM.out hO_0.row (by omega) HT.out).mono ?_; rintro e x0c ⟨A3, cp3, rfl, hT_0c, hw_0c⟩)
      refine hK.out _ _ ⟨blk_next hP_0 hw_0c, blk_next hX_0 hw_0c, hO_0.next hw_0c, hY_0.next hw_0c, bel_next hB_0 hw_0c⟩ (fun hHeld => ?_)
      clear hK K
      try simp only [Act.put, List.getElem_toArray, List.getElem_cons_succ, List.getElem_cons_zero, List.setIfInBounds_toArray, List.set_cons_zero, List.set_cons_succ]
      obtain ⟨hP_0c, hX_0c, hO_0c, hY_0c, hB_0c⟩ := id hHeld
      simp only [List.length_nil]
      refine wpAnyH_ready (rs := [3]) (by kernel_rfl) (by simp) ?_
      refine AllReadyH.cons (o := _) rfl (fun K hK => ?_) AllReadyH.nil
      go_simp
      (go_at_call 22; refine (sameSite_is 0 0 0 0 0 0 0 0 0 0 0 0 0 0 false A2 A3 cp2 cp3 [] (n := 0) rfl hY_0c.row hT_0c.row (by omega)).mono ?_; rintro e x0cc ⟨rfl, hw_0cc⟩)
      refine hK.out _ _ ⟨blk_next hP_0c hw_0cc, blk_next hX_0c hw_0cc, hO_0c.next hw_0cc, hY_0c.next hw_0cc, bel_next hB_0c hw_0cc⟩ (fun hHeld => ?_)
      clear hK K
      try simp only [Act.put, List.getElem_toArray, List.getElem_cons_succ, List.getElem_cons_zero, List.setIfInBounds_toArray, List.set_cons_zero, List.set_cons_succ]
      obtain ⟨hP_0cc, hX_0cc, hO_0cc, hY_0cc, hB_0cc⟩ := id hHeld
      have hT_0cc := hT_0c.next hw_0cc
      refine wpAnyH_take (i := 4) (oi := _) (v := ?_) rfl (by kernel_rfl) (by kernel_rfl) (by kernel_rfl) (fun _ _ _ h => h) (Or.inl ⟨by rfl, ?_⟩) (by assumption) ?_
      (rotate_left); (focus (intro wv hSw; (obtain ⟨qP, qX, qO, qY, qB⟩ := hSw);  go_simp; (try with_reducible rfl)))
      try simp only [Act.put, List.getElem_toArray, List.getElem_cons_succ, List.getElem_cons_zero, List.setIfInBounds_toArray, List.set_cons_zero, List.set_cons_succ]
      refine wpAnyH_done (by kernel_rfl) ?_ _
      have hP4 := hP_0cc
      have hX4 := hX_0cc
      have hO4 := hO_0cc
      have hY4 := hY_0cc
      have hB4 := hB_0cc
      clear hP_0cc hX_0cc hO_0cc hY_0cc hB_0cc
      go_wp2_with (first | (refine wpList_load_row rfl 33 _ rfl _ rfl _ _ (0, 0) _ (by assumption) Tryz.underlying33 rfl (by kernel_rfl) ?_) | (refine wpList_load_rowG (by rfl) 33 _ rfl _ rfl _ _ (0, 0) _ (by assumption) Tryz.underlying33 rfl (by kernel_rfl) ?_))
      refine (sSV10_is la dy mi e1 n1 fe fn fu ho ha ne lo hi st up A cp xs _ HM.out hO4.row (by omega) HV.out).mono ?_; rintro e' w5 ⟨rfl, hw5⟩
      have hP5 := blk_next hP4 hw5
      have hX5 := blk_next hX4 hw5
      have hO5 := hO4.next hw5
      have hY5 := hY4.next hw5
      have hB5 := bel_next hB4 hw5
      go_wp2_with (first | (refine wpList_load_row rfl 33 _ rfl _ rfl _ _ (0, 0) _ (by assumption) Tryz.underlying33 rfl (by kernel_rfl) ?_) | (refine wpList_load_rowG (by rfl) 33 _ rfl _ rfl _ _ (0, 0) _ (by assumption) Tryz.underlying33 rfl (by kernel_rfl) ?_))
      refine (noSite_is A2 cp2 _).mono ?_; rintro e' w6 ⟨rfl, hw6⟩
      have hP6 := blk_next hP5 hw6
      have hX6 := blk_next hX5 hw6
      have hO6 := hO5.next hw6
      have hY6 := hY5.next hw6
      have hB6 := bel_next hB5 hw6
      go_wp2_with (first | (refine wpList_load_row rfl 33 _ rfl _ rfl _ _ (0, 0) _ (by assumption) Tryz.underlying33 rfl (by kernel_rfl) ?_) | (refine wpList_load_rowG (by rfl) 33 _ rfl _ rfl _ _ (0, 0) _ (by assumption) Tryz.underlying33 rfl (by kernel_rfl) ?_))
      refine (alive_bel _).mono ?_; rintro e' w7 ⟨rfl, hw7⟩
      have hP7 := blk_next hP6 hw7
      have hX7 := blk_next hX6 hw7
      have hO7 := hO6.next hw7
      have hY7 := hY6.next hw7
      have hB7 := bel_next hB6 hw7
      go_wp2_with (first | (refine wpList_load_row rfl 33 _ rfl _ rfl _ _ (0, 0) _ (by assumption) Tryz.underlying33 rfl (by kernel_rfl) ?_) | (refine wpList_load_rowG (by rfl) 33 _ rfl _ rfl _ _ (0, 0) _ (by assumption) Tryz.underlying33 rfl (by kernel_rfl) ?_))
      go_ret
      exact ⟨rfl, by first | exact hB7 | exact hB7.drew⟩
    · obtain ⟨d2, hd2⟩ : ∃ v, tkD dy mi = v := ⟨_, rfl⟩
      obtain ⟨m2, hm2⟩ : ∃ v, tkM mi = v := ⟨_, rfl⟩
      obtain ⟨gx, hgx⟩ : ∃ v, gxI la e1 n1 fe fn fu xs d2 m2 = v := ⟨_, rfl⟩
      obtain ⟨a2, ha2⟩ : ∃ v, stS ho ha (gx, ne) = v := ⟨_, rfl⟩
      obtain ⟨x2, hx2⟩ : ∃ v, lxI la e1 n1 xs d2 m2 = v := ⟨_, rfl⟩
      obtain ⟨u2, hu2⟩ : ∃ v, psS up st lo hi 2 x2 = v := ⟨_, rfl⟩
      obtain ⟨t2, ht2⟩ : ∃ v, psT up st lo hi 2 x2 = v := ⟨_, rfl⟩
      have hs2 : tk1 la e1 n1 fe fn fu ho ne lo hi xs (dy, mi, ha, up, st) = (d2, m2, a2, u2, t2) := by unfold tk1; dsimp only; rw [hd2, hm2, hgx, ha2, hx2, hu2, ht2]
      have HT2 := Lib.hid (siT_yes (M := 1) (up := up) hv (by omega) hs2)
      have hv2 := siB_tick (up := up) hv hs2
      dsimp only at hv2
      obtain ⟨v1, v2, v3, v4, v5, v6, v7, v8, v9, v10, v11, v12⟩ := siB_iff.1 hv
      obtain ⟨k1, k2, k3, k4, _⟩ := siB_iff.1 hv2
      have hgb := gxI_bd la e1 n1 fe fn fu xs d2 m2
      rw [hgx] at hgb
      have HST := Lib.hid (st_one v8.1 v8.2 v9.1 v9.2 hgb.1 hgb.2 v10.1 v10.2)
      rw [ha2] at HST
      have hpb : psB st lo hi 2 = true := psB_iff.2 ⟨v12, v11, by omega⟩
      have HU : Hid (pqS up st lo hi 2 x2 = u2) := Lib.hid (by rw [← hu2]; exact (pq_yes hpb).1)
      have HTT : Hid (pqT up st lo hi 2 x2 = t2) := Lib.hid (by rw [← ht2]; exact (pq_yes hpb).2)
      have HG := Lib.hid ((gnI_yes hv2).trans hgx)
      have HX := Lib.hid ((lgI_yes hv2).trans hx2)
      have HV2 := Lib.hid hv2
      have hqt := qt_one v2.1 v2.2 v3.1 v3.2 v4
      rw [hd2, hm2] at hqt
      obtain ⟨q0, hq0⟩ : ∃ q, qtI dy mi = q := ⟨_, rfl⟩
      obtain ⟨q2, hq2⟩ : ∃ q, qtI d2 m2 = q := ⟨_, rfl⟩
      rw [hq0, hq2] at hqt
      have hqb := qt_bd v2.1 v2.2 v3.1 v3.2
      rw [hq0] at hqb
      obtain ⟨qb0, qb1⟩ := hqb
      have hqe2 : (q0 + 1).tmod 35040 = q2 := hqt.symm
      have hqe : (q0 + 1) % 35040 = q2 := by rw [hqt, Int.tmod_eq_emod_of_nonneg (by omega)]
      have qc0 : 0 ≤ q2 ∧ q2 < 35040 := by omega
      have hqw1 : IntKind.i64.wrap (q0 + 1) = q0 + 1 := IntWalk.i64_in _ (by omega)
      have hqw2 : IntKind.i64.wrap q2 = q2 := IntWalk.i64_in _ (by omega)
      have HQ0 := Lib.hid hq0
      have HQ2 := Lib.hid hq2
      have HV := Lib.hid hv
      clear hv hv2 hs2 hd2 hm2 hgx ha2 hx2 hu2 ht2 hqt hq0 hq2 v1 v4 v5 v6 v7 v11 v12 k1 k4 hpb
      have hP1 : (w1.alloc (.cells #[.int .i64 la, .int .i64 dy, .int .i64 mi, .slice A m cp, .int .i64 e1, .int .i64 n1, .int .i64 fe, .int .i64 fn, .int .i64 fu, .int .i64 ho, .int .i64 ha, .int .i64 ne, .int .i64 lo, .int .i64 hi, .bool up, .int .i64 st] 33 (0, 0))).heap[w1.heap.size]? = some (.cells #[.int .i64 la, .int .i64 dy, .int .i64 mi, .slice A m cp, .int .i64 e1, .int .i64 n1, .int .i64 fe, .int .i64 fn, .int .i64 fu, .int .i64 ho, .int .i64 ha, .int .i64 ne, .int .i64 lo, .int .i64 hi, .bool up, .int .i64 st] 33 (0, 0)) := by have := blk_new (w1) (.cells #[.int .i64 la, .int .i64 dy, .int .i64 mi, .slice A m cp, .int .i64 e1, .int .i64 n1, .int .i64 fe, .int .i64 fn, .int .i64 fu, .int .i64 ho, .int .i64 ha, .int .i64 ne, .int .i64 lo, .int .i64 hi, .bool up, .int .i64 st] 33 (0, 0)); simpa using this
      have hB1 := hB0.alloc hB0.size (.cells #[.int .i64 la, .int .i64 dy, .int .i64 mi, .slice A m cp, .int .i64 e1, .int .i64 n1, .int .i64 fe, .int .i64 fn, .int .i64 fu, .int .i64 ho, .int .i64 ha, .int .i64 ne, .int .i64 lo, .int .i64 hi, .bool up, .int .i64 st] 33 (0, 0))
      have hO1 := hO0.next (bel1 _ (.cells #[.int .i64 la, .int .i64 dy, .int .i64 mi, .slice A m cp, .int .i64 e1, .int .i64 n1, .int .i64 fe, .int .i64 fn, .int .i64 fu, .int .i64 ho, .int .i64 ha, .int .i64 ne, .int .i64 lo, .int .i64 hi, .bool up, .int .i64 st] 33 (0, 0)))
      have zBP := hB0.size
      go_wp2_with (first | (refine wpList_load_row rfl 33 _ rfl _ rfl _ _ (0, 0) _ (by assumption) Tryz.underlying33 rfl (by kernel_rfl) ?_) | (refine wpList_load_rowG (by rfl) 33 _ rfl _ rfl _ _ (0, 0) _ (by assumption) Tryz.underlying33 rfl (by kernel_rfl) ?_))
      refine (iST_is la dy mi e1 n1 fe fn fu ho ha ne lo hi st up A cp xs _ HM.out hO1.row (by omega) HT2.out).mono ?_; rintro e' w2 ⟨A2, cp2, rfl, hY2, hw2⟩
      have hP2 := blk_next hP1 hw2
      have hO2 := hO1.next hw2
      have hB2 := bel_next hB1 hw2
      have hY2 := hY2.mono (base' := w.heap.size) hB1.size
      rw [HM.out]
      have zPX := blk_lt hP2
      have hX3 : (w2.alloc (.cells #[.int .i64 la, .int .i64 d2, .int .i64 m2, .slice A2 m cp2, .int .i64 e1, .int .i64 n1, .int .i64 fe, .int .i64 fn, .int .i64 fu, .int .i64 ho, .int .i64 a2, .int .i64 ne, .int .i64 lo, .int .i64 hi, .bool u2, .int .i64 t2] 33 (0, 0))).heap[w2.heap.size]? = some (.cells #[.int .i64 la, .int .i64 d2, .int .i64 m2, .slice A2 m cp2, .int .i64 e1, .int .i64 n1, .int .i64 fe, .int .i64 fn, .int .i64 fu, .int .i64 ho, .int .i64 a2, .int .i64 ne, .int .i64 lo, .int .i64 hi, .bool u2, .int .i64 t2] 33 (0, 0)) := by have := blk_new (w2) (.cells #[.int .i64 la, .int .i64 d2, .int .i64 m2, .slice A2 m cp2, .int .i64 e1, .int .i64 n1, .int .i64 fe, .int .i64 fn, .int .i64 fu, .int .i64 ho, .int .i64 a2, .int .i64 ne, .int .i64 lo, .int .i64 hi, .bool u2, .int .i64 t2] 33 (0, 0)); simpa using this
      have hP3 := blk_old hP2 (.cells #[.int .i64 la, .int .i64 d2, .int .i64 m2, .slice A2 m cp2, .int .i64 e1, .int .i64 n1, .int .i64 fe, .int .i64 fn, .int .i64 fu, .int .i64 ho, .int .i64 a2, .int .i64 ne, .int .i64 lo, .int .i64 hi, .bool u2, .int .i64 t2] 33 (0, 0))
      have hB3 := hB2.alloc hB2.size (.cells #[.int .i64 la, .int .i64 d2, .int .i64 m2, .slice A2 m cp2, .int .i64 e1, .int .i64 n1, .int .i64 fe, .int .i64 fn, .int .i64 fu, .int .i64 ho, .int .i64 a2, .int .i64 ne, .int .i64 lo, .int .i64 hi, .bool u2, .int .i64 t2] 33 (0, 0))
      have hO3 := hO2.next (bel1 _ (.cells #[.int .i64 la, .int .i64 d2, .int .i64 m2, .slice A2 m cp2, .int .i64 e1, .int .i64 n1, .int .i64 fe, .int .i64 fn, .int .i64 fu, .int .i64 ho, .int .i64 a2, .int .i64 ne, .int .i64 lo, .int .i64 hi, .bool u2, .int .i64 t2] 33 (0, 0)))
      have hY3 := hY2.next (bel1 _ (.cells #[.int .i64 la, .int .i64 d2, .int .i64 m2, .slice A2 m cp2, .int .i64 e1, .int .i64 n1, .int .i64 fe, .int .i64 fn, .int .i64 fu, .int .i64 ho, .int .i64 a2, .int .i64 ne, .int .i64 lo, .int .i64 hi, .bool u2, .int .i64 t2] 33 (0, 0)))
      have zBX := hB2.size
      go_wp2_with (first | (refine wpList_load_row rfl 33 _ rfl _ rfl _ _ (0, 0) _ (by assumption) Tryz.underlying33 rfl (by kernel_rfl) ?_) | (refine wpList_load_rowG (by rfl) 33 _ rfl _ rfl _ _ (0, 0) _ (by assumption) Tryz.underlying33 rfl (by kernel_rfl) ?_))
      refine wp_region_held_drew (S := (fun w' => w'.heap[w1.heap.size]? = some (.cells #[.int .i64 la, .int .i64 dy, .int .i64 mi, .slice A m cp, .int .i64 e1, .int .i64 n1, .int .i64 fe, .int .i64 fn, .int .i64 fu, .int .i64 ho, .int .i64 ha, .int .i64 ne, .int .i64 lo, .int .i64 hi, .bool up, .int .i64 st] 33 (0, 0)) ∧ w'.heap[w2.heap.size]? = some (.cells #[.int .i64 la, .int .i64 d2, .int .i64 m2, .slice A2 m cp2, .int .i64 e1, .int .i64 n1, .int .i64 fe, .int .i64 fn, .int .i64 fu, .int .i64 ho, .int .i64 a2, .int .i64 ne, .int .i64 lo, .int .i64 hi, .bool u2, .int .i64 t2] 33 (0, 0)) ∧ SOwn encBlock w' w.heap.size 40 A cp xs ∧ SOwn encBlock w' w.heap.size 40 A2 cp2 xs ∧ Below w.heap.size w w')) (by kernel_rfl) ⟨hP3, hX3, hO3.drew, hY3.drew, hB3.drew⟩ (fun hHeld => ?_)
      obtain ⟨hP_0, hX_0, hO_0, hY_0, hB_0⟩ := id hHeld
      refine wpAnyH_take (i := 0) (oi := _) (v := ?_) rfl (by kernel_rfl) (by kernel_rfl) (by kernel_rfl) (fun _ _ _ h => h) (Or.inl ⟨by rfl, ?_⟩) (by assumption) ?_
      (rotate_left); (focus (intro wv hSw; (obtain ⟨qP, qX, qO, qY, qB⟩ := hSw); refine run_load_row9 33 ?x9_3 ?h9_3 _ ?e9_3 _ _ (0, 0) _ qX Tryz.underlying33 rfl (by kernel_rfl); (case h9_3 => rfl); (case e9_3 => rfl)))
      try simp only [Act.put, List.getElem_toArray, List.getElem_cons_succ, List.getElem_cons_zero, List.setIfInBounds_toArray, List.set_cons_zero, List.set_cons_succ]
      refine wpAnyH_take (i := 1) (oi := _) (v := ?_) rfl (by kernel_rfl) (by kernel_rfl) (by kernel_rfl) (fun _ _ _ h => h) (Or.inl ⟨by rfl, ?_⟩) (by assumption) ?_
      (rotate_left); (focus (intro wv hSw; (obtain ⟨qP, qX, qO, qY, qB⟩ := hSw); refine run_load_row9 33 ?x9_4 ?h9_4 _ ?e9_4 _ _ (0, 0) _ qP Tryz.underlying33 rfl (by kernel_rfl); (case h9_4 => rfl); (case e9_4 => rfl)))
      try simp only [Act.put, List.getElem_toArray, List.getElem_cons_succ, List.getElem_cons_zero, List.setIfInBounds_toArray, List.set_cons_zero, List.set_cons_succ]
      refine wpAnyH_ready (rs := [2]) (by kernel_rfl) (by simp) ?_
      refine AllReadyH.cons (o := _) rfl (fun K hK => ?_) AllReadyH.nil
      go_simp
      (go_at_call 23; refine (sST_is la dy mi e1 n1 fe fn fu ho ha ne lo hi st up A cp xs _ HM.out hO_0.row (by omega) HT2.out).mono ?_; rintro e x0c ⟨A3, cp3, rfl, hT_0c, hw_0c⟩)
      refine hK.out _ _ ⟨blk_next hP_0 hw_0c, blk_next hX_0 hw_0c, hO_0.next hw_0c, hY_0.next hw_0c, bel_next hB_0 hw_0c⟩ (fun hHeld => ?_)
      clear hK K
      try simp only [Act.put, List.getElem_toArray, List.getElem_cons_succ, List.getElem_cons_zero, List.setIfInBounds_toArray, List.set_cons_zero, List.set_cons_succ]
      obtain ⟨hP_0c, hX_0c, hO_0c, hY_0c, hB_0c⟩ := id hHeld
      rw [HM.out]
      refine wpAnyH_ready (rs := [3]) (by kernel_rfl) (by simp) ?_
      refine AllReadyH.cons (o := _) rfl (fun K hK => ?_) AllReadyH.nil
      go_simp
      (go_at_call 22; refine (sameSite_is la d2 m2 e1 n1 fe fn fu ho a2 ne lo hi t2 u2 A2 A3 cp2 cp3 xs HM.out hY_0c.row hT_0c.row (by omega)).mono ?_; rintro e x0cc ⟨rfl, hw_0cc⟩)
      refine hK.out _ _ ⟨blk_next hP_0c hw_0cc, blk_next hX_0c hw_0cc, hO_0c.next hw_0cc, hY_0c.next hw_0cc, bel_next hB_0c hw_0cc⟩ (fun hHeld => ?_)
      clear hK K
      try simp only [Act.put, List.getElem_toArray, List.getElem_cons_succ, List.getElem_cons_zero, List.setIfInBounds_toArray, List.set_cons_zero, List.set_cons_succ]
      obtain ⟨hP_0cc, hX_0cc, hO_0cc, hY_0cc, hB_0cc⟩ := id hHeld
      have hT_0cc := hT_0c.next hw_0cc
      refine wpAnyH_take (i := 4) (oi := _) (v := ?_) rfl (by kernel_rfl) (by kernel_rfl) (by kernel_rfl) (fun _ _ _ h => h) (Or.inl ⟨by rfl, ?_⟩) (by assumption) ?_
      (rotate_left); (focus (intro wv hSw; (obtain ⟨qP, qX, qO, qY, qB⟩ := hSw);  go_simp; (try with_reducible rfl)))
      try simp only [Act.put, List.getElem_toArray, List.getElem_cons_succ, List.getElem_cons_zero, List.setIfInBounds_toArray, List.set_cons_zero, List.set_cons_succ]
      refine wpAnyH_done (by kernel_rfl) ?_ _
      have hP4 := hP_0cc
      have hX4 := hX_0cc
      have hO4 := hO_0cc
      have hY4 := hY_0cc
      have hB4 := hB_0cc
      clear hP_0cc hX_0cc hO_0cc hY_0cc hB_0cc
      go_wp2_with (first | (refine wpList_load_row rfl 33 _ rfl _ rfl _ _ (0, 0) _ (by assumption) Tryz.underlying33 rfl (by kernel_rfl) ?_) | (refine wpList_load_rowG (by rfl) 33 _ rfl _ rfl _ _ (0, 0) _ (by assumption) Tryz.underlying33 rfl (by kernel_rfl) ?_))
      refine (sSV10_is la dy mi e1 n1 fe fn fu ho ha ne lo hi st up A cp xs _ HM.out hO4.row (by omega) HV.out).mono ?_; rintro e' w5 ⟨rfl, hw5⟩
      have hP5 := blk_next hP4 hw5
      have hX5 := blk_next hX4 hw5
      have hO5 := hO4.next hw5
      have hY5 := hY4.next hw5
      have hB5 := bel_next hB4 hw5
      obtain ⟨cx0, cx1, cx2, cx3, cx4, cx5, cx6, cx7, cx8, cx9, cx10, cx11, cx12, cx13, cx14, cx15, _⟩ := blk16 hX5
      have zPQ := blk_lt hP5
      have zXQ := blk_lt hX5
      have hQ6 : (w5.alloc (.cells #[.int .i64 la, .int .i64 d2, .int .i64 m2, .slice A m cp, .int .i64 e1, .int .i64 n1, .int .i64 fe, .int .i64 fn, .int .i64 fu, .int .i64 ho, .int .i64 a2, .int .i64 ne, .int .i64 lo, .int .i64 hi, .bool u2, .int .i64 t2] 33 (0, 0))).heap[w5.heap.size]? = some (.cells #[.int .i64 la, .int .i64 d2, .int .i64 m2, .slice A m cp, .int .i64 e1, .int .i64 n1, .int .i64 fe, .int .i64 fn, .int .i64 fu, .int .i64 ho, .int .i64 a2, .int .i64 ne, .int .i64 lo, .int .i64 hi, .bool u2, .int .i64 t2] 33 (0, 0)) := by have := blk_new (w5) (.cells #[.int .i64 la, .int .i64 d2, .int .i64 m2, .slice A m cp, .int .i64 e1, .int .i64 n1, .int .i64 fe, .int .i64 fn, .int .i64 fu, .int .i64 ho, .int .i64 a2, .int .i64 ne, .int .i64 lo, .int .i64 hi, .bool u2, .int .i64 t2] 33 (0, 0)); simpa using this
      have hP6 := blk_old hP5 (.cells #[.int .i64 la, .int .i64 d2, .int .i64 m2, .slice A m cp, .int .i64 e1, .int .i64 n1, .int .i64 fe, .int .i64 fn, .int .i64 fu, .int .i64 ho, .int .i64 a2, .int .i64 ne, .int .i64 lo, .int .i64 hi, .bool u2, .int .i64 t2] 33 (0, 0))
      have hX6 := blk_old hX5 (.cells #[.int .i64 la, .int .i64 d2, .int .i64 m2, .slice A m cp, .int .i64 e1, .int .i64 n1, .int .i64 fe, .int .i64 fn, .int .i64 fu, .int .i64 ho, .int .i64 a2, .int .i64 ne, .int .i64 lo, .int .i64 hi, .bool u2, .int .i64 t2] 33 (0, 0))
      have hB6 := hB5.alloc hB5.size (.cells #[.int .i64 la, .int .i64 d2, .int .i64 m2, .slice A m cp, .int .i64 e1, .int .i64 n1, .int .i64 fe, .int .i64 fn, .int .i64 fu, .int .i64 ho, .int .i64 a2, .int .i64 ne, .int .i64 lo, .int .i64 hi, .bool u2, .int .i64 t2] 33 (0, 0))
      have hO6 := hO5.next (bel1 _ (.cells #[.int .i64 la, .int .i64 d2, .int .i64 m2, .slice A m cp, .int .i64 e1, .int .i64 n1, .int .i64 fe, .int .i64 fn, .int .i64 fu, .int .i64 ho, .int .i64 a2, .int .i64 ne, .int .i64 lo, .int .i64 hi, .bool u2, .int .i64 t2] 33 (0, 0)))
      have hY6 := hY5.next (bel1 _ (.cells #[.int .i64 la, .int .i64 d2, .int .i64 m2, .slice A m cp, .int .i64 e1, .int .i64 n1, .int .i64 fe, .int .i64 fn, .int .i64 fu, .int .i64 ho, .int .i64 a2, .int .i64 ne, .int .i64 lo, .int .i64 hi, .bool u2, .int .i64 t2] 33 (0, 0)))
      have zBQ := hB5.size
      go_wp2_with (first | (refine wpList_load_row rfl 33 _ rfl _ rfl _ _ (0, 0) _ (by assumption) Tryz.underlying33 rfl (by kernel_rfl) ?_) | (refine wpList_load_rowG (by rfl) 33 _ rfl _ rfl _ _ (0, 0) _ (by assumption) Tryz.underlying33 rfl (by kernel_rfl) ?_))
      refine wp_region_held_drew (S := (fun w' => w'.heap[w1.heap.size]? = some (.cells #[.int .i64 la, .int .i64 dy, .int .i64 mi, .slice A m cp, .int .i64 e1, .int .i64 n1, .int .i64 fe, .int .i64 fn, .int .i64 fu, .int .i64 ho, .int .i64 ha, .int .i64 ne, .int .i64 lo, .int .i64 hi, .bool up, .int .i64 st] 33 (0, 0)) ∧ w'.heap[w2.heap.size]? = some (.cells #[.int .i64 la, .int .i64 d2, .int .i64 m2, .slice A2 m cp2, .int .i64 e1, .int .i64 n1, .int .i64 fe, .int .i64 fn, .int .i64 fu, .int .i64 ho, .int .i64 a2, .int .i64 ne, .int .i64 lo, .int .i64 hi, .bool u2, .int .i64 t2] 33 (0, 0)) ∧ w'.heap[w5.heap.size]? = some (.cells #[.int .i64 la, .int .i64 d2, .int .i64 m2, .slice A m cp, .int .i64 e1, .int .i64 n1, .int .i64 fe, .int .i64 fn, .int .i64 fu, .int .i64 ho, .int .i64 a2, .int .i64 ne, .int .i64 lo, .int .i64 hi, .bool u2, .int .i64 t2] 33 (0, 0)) ∧ SOwn encBlock w' w.heap.size 40 A cp xs ∧ SOwn encBlock w' w.heap.size 40 A2 cp2 xs ∧ Below w.heap.size w w')) (by kernel_rfl) ⟨hP6, hX6, hQ6, hO6.drew, hY6.drew, hB6.drew⟩ (fun hHeld => ?_)
      obtain ⟨hP_0, hX_0, hQ_0, hO_0, hY_0, hB_0⟩ := id hHeld
      refine wpAnyH_take (i := 0) (oi := _) (v := ?_) rfl (by kernel_rfl) (by kernel_rfl) (by kernel_rfl) (fun _ _ _ h => h) (Or.inl ⟨by rfl, ?_⟩) (by assumption) ?_
      (rotate_left); (focus (intro wv hSw; (obtain ⟨qP, qX, qQ, qO, qY, qB⟩ := hSw); refine run_load_row9 33 ?x9_5 ?h9_5 _ ?e9_5 _ _ (0, 0) _ qX Tryz.underlying33 rfl (by kernel_rfl); (case h9_5 => rfl); (case e9_5 => rfl)))
      try simp only [Act.put, List.getElem_toArray, List.getElem_cons_succ, List.getElem_cons_zero, List.setIfInBounds_toArray, List.set_cons_zero, List.set_cons_succ]
      refine wpAnyH_take (i := 2) (oi := _) (v := ?_) rfl (by kernel_rfl) (by kernel_rfl) (by kernel_rfl) (fun _ _ _ h => h) (Or.inl ⟨by rfl, ?_⟩) (by assumption) ?_
      (rotate_left); (focus (intro wv hSw; (obtain ⟨qP, qX, qQ, qO, qY, qB⟩ := hSw);  go_simp; (try with_reducible rfl)))
      try simp only [Act.put, List.getElem_toArray, List.getElem_cons_succ, List.getElem_cons_zero, List.setIfInBounds_toArray, List.set_cons_zero, List.set_cons_succ]
      refine wpAnyH_take (i := 3) (oi := _) (v := ?_) rfl (by kernel_rfl) (by kernel_rfl) (by kernel_rfl) (fun _ _ _ h => h) (Or.inl ⟨by rfl, ?_⟩) (by assumption) ?_
      (rotate_left); (focus (intro wv hSw; (obtain ⟨qP, qX, qQ, qO, qY, qB⟩ := hSw); obtain ⟨_, _, _, _, _, _, _, _, _, _, _, _, _, _, _, _, _, _, _, _, _, _, _, _, _, _, _, _, _, _, _, _, _⟩ := blk16 qP; go_simp; (try with_reducible rfl)))
      try simp only [Act.put, List.getElem_toArray, List.getElem_cons_succ, List.getElem_cons_zero, List.setIfInBounds_toArray, List.set_cons_zero, List.set_cons_succ]
      refine wpAnyH_take (i := 6) (oi := _) (v := ?_) rfl (by kernel_rfl) (by kernel_rfl) (by kernel_rfl) (fun _ _ _ h => h) (Or.inl ⟨by rfl, ?_⟩) (by assumption) ?_
      (rotate_left); (focus (intro wv hSw; (obtain ⟨qP, qX, qQ, qO, qY, qB⟩ := hSw);  go_simp; (try with_reducible rfl)))
      try simp only [Act.put, List.getElem_toArray, List.getElem_cons_succ, List.getElem_cons_zero, List.setIfInBounds_toArray, List.set_cons_zero, List.set_cons_succ]
      refine wpAnyH_take (i := 7) (oi := _) (v := ?_) rfl (by kernel_rfl) (by kernel_rfl) (by kernel_rfl) (fun _ _ _ h => h) (Or.inl ⟨by rfl, ?_⟩) (by assumption) ?_
      (rotate_left); (focus (intro wv hSw; (obtain ⟨qP, qX, qQ, qO, qY, qB⟩ := hSw); obtain ⟨_, _, _, _, _, _, _, _, _, _, _, _, _, _, _, _, _, _, _, _, _, _, _, _, _, _, _, _, _, _, _, _, _⟩ := blk16 qP; go_simp; (try with_reducible rfl)))
      try simp only [Act.put, List.getElem_toArray, List.getElem_cons_succ, List.getElem_cons_zero, List.setIfInBounds_toArray, List.set_cons_zero, List.set_cons_succ]
      refine wpAnyH_take (i := 8) (oi := _) (v := ?_) rfl (by kernel_rfl) (by kernel_rfl) (by kernel_rfl) (fun _ _ _ h => h) (Or.inl ⟨by rfl, ?_⟩) (by assumption) ?_
      (rotate_left); (focus (intro wv hSw; (obtain ⟨qP, qX, qQ, qO, qY, qB⟩ := hSw);  go_simp; (try with_reducible rfl)))
      try simp only [Act.put, List.getElem_toArray, List.getElem_cons_succ, List.getElem_cons_zero, List.setIfInBounds_toArray, List.set_cons_zero, List.set_cons_succ]
      refine wpAnyH_take (i := 9) (oi := _) (v := ?_) rfl (by kernel_rfl) (by kernel_rfl) (by kernel_rfl) (fun _ _ _ h => h) (Or.inl ⟨by rfl, ?_⟩) (by assumption) ?_
      (rotate_left); (focus (intro wv hSw; (obtain ⟨qP, qX, qQ, qO, qY, qB⟩ := hSw); obtain ⟨_, _, _, _, _, _, _, _, _, _, _, _, _, _, _, _, _, _, _, _, _, _, _, _, _, _, _, _, _, _, _, _, _⟩ := blk16 qP; go_simp; (try with_reducible rfl)))
      try simp only [Act.put, List.getElem_toArray, List.getElem_cons_succ, List.getElem_cons_zero, List.setIfInBounds_toArray, List.set_cons_zero, List.set_cons_succ]
      refine wpAnyH_ready (rs := [1]) (by kernel_rfl) (by simp) ?_
      refine AllReadyH.cons (o := _) rfl (fun K hK => ?_) AllReadyH.nil
      go_simp
      (go_at_call 17; refine (iSG_is la d2 m2 e1 n1 fe fn fu ho a2 ne lo hi t2 u2 A2 cp2 xs _ HM.out hY_0.row (by omega) HG.out).mono ?_; rintro e x0c ⟨rfl, hw_0c⟩)
      refine hK.out _ _ ⟨blk_next hP_0 hw_0c, blk_next hX_0 hw_0c, blk_next hQ_0 hw_0c, hO_0.next hw_0c, hY_0.next hw_0c, bel_next hB_0 hw_0c⟩ (fun hHeld => ?_)
      clear hK K
      try simp only [Act.put, List.getElem_toArray, List.getElem_cons_succ, List.getElem_cons_zero, List.setIfInBounds_toArray, List.set_cons_zero, List.set_cons_succ]
      obtain ⟨hP_0c, hX_0c, hQ_0c, hO_0c, hY_0c, hB_0c⟩ := id hHeld
      refine wpAnyH_take (i := 4) (oi := _) (v := ?_) rfl (by kernel_rfl) (by kernel_rfl) (by kernel_rfl) (fun _ _ _ h => h) (Or.inl ⟨by rfl, ?_⟩) (by assumption) ?_
      (rotate_left); (focus (intro wv hSw; (obtain ⟨qP, qX, qQ, qO, qY, qB⟩ := hSw);  go_simp; (try with_reducible rfl)))
      try simp only [Act.put, List.getElem_toArray, List.getElem_cons_succ, List.getElem_cons_zero, List.setIfInBounds_toArray, List.set_cons_zero, List.set_cons_succ]
      refine wpAnyH_ready (rs := [5]) (by kernel_rfl) (by simp) ?_
      refine AllReadyH.cons (o := _) rfl (fun K hK => ?_) AllReadyH.nil
      go_simp
      refine hK.out _ _ ⟨blk_old hP_0c (.cells #[.int .i64 gx, .int .i64 ne] 54 (0, 0)), blk_old hX_0c (.cells #[.int .i64 gx, .int .i64 ne] 54 (0, 0)), blk_old hQ_0c (.cells #[.int .i64 gx, .int .i64 ne] 54 (0, 0)), hO_0c.alloc (.cells #[.int .i64 gx, .int .i64 ne] 54 (0, 0)), hY_0c.alloc (.cells #[.int .i64 gx, .int .i64 ne] 54 (0, 0)), hB_0c.alloc hB_0c.size (.cells #[.int .i64 gx, .int .i64 ne] 54 (0, 0))⟩ (fun hHeld => ?_)
      clear hK K
      try simp only [Act.put, List.getElem_toArray, List.getElem_cons_succ, List.getElem_cons_zero, List.setIfInBounds_toArray, List.set_cons_zero, List.set_cons_succ]
      obtain ⟨hP_0ck, hX_0ck, hQ_0ck, hO_0ck, hY_0ck, hB_0ck⟩ := id hHeld
      have hG_0ck : SBlk encHour (x0c.alloc (.cells #[.int .i64 gx, .int .i64 ne] 54 (0, 0))) x0c.heap.size 54 [(gx, ne)] := blk_new x0c (.cells #[.int .i64 gx, .int .i64 ne] 54 (0, 0))
      refine wpAnyH_ready (rs := [10]) (by kernel_rfl) (by simp) ?_
      refine AllReadyH.cons (o := _) rfl (fun K hK => ?_) AllReadyH.nil
      go_simp
      (go_at_call 26; refine (iSr_is (some ⟨x0c.heap.size, 0, none⟩) 1 [(gx, ne)] _ rfl hG_0ck.row (by simp) HST.out).mono ?_; rintro e x0ckc ⟨V, cv, rfl, hVV, hw_0ckc⟩)
      refine hK.out _ _ ⟨blk_next hP_0ck hw_0ckc, blk_next hX_0ck hw_0ckc, blk_next hQ_0ck hw_0ckc, hO_0ck.next hw_0ckc, hY_0ck.next hw_0ckc, bel_next hB_0ck hw_0ckc⟩ (fun hHeld => ?_)
      clear hK K
      try simp only [Act.put, List.getElem_toArray, List.getElem_cons_succ, List.getElem_cons_zero, List.setIfInBounds_toArray, List.set_cons_zero, List.set_cons_succ]
      obtain ⟨hP_0ckc, hX_0ckc, hQ_0ckc, hO_0ckc, hY_0ckc, hB_0ckc⟩ := id hHeld
      have hV_0ckc := hVV.mono (base' := w.heap.size) hB_0ck.size
      refine wpAnyH_take (i := 11) (oi := _) (v := ?_) rfl (by kernel_rfl) (by kernel_rfl) (by kernel_rfl) (fun _ _ _ h => h) (Or.inl ⟨by rfl, ?_⟩) (by assumption) ?_
      (rotate_left); (focus (intro wv hSw; (obtain ⟨qP, qX, qQ, qO, qY, qB⟩ := hSw);  go_simp; (try with_reducible rfl)))
      try simp only [Act.put, List.getElem_toArray, List.getElem_cons_succ, List.getElem_cons_zero, List.setIfInBounds_toArray, List.set_cons_zero, List.set_cons_succ]
      refine wpAnyH_done (by kernel_rfl) ?_ _
      have hP7 := hP_0ckc
      have hX7 := hX_0ckc
      have hQ7 := hQ_0ckc
      have hO7 := hO_0ckc
      have hY7 := hY_0ckc
      have hB7 := hB_0ckc
      have hV7 := hV_0ckc
      clear hP_0ckc hX_0ckc hQ_0ckc hO_0ckc hY_0ckc hB_0ckc hV_0ckc
      obtain ⟨gv, hgv, _, _⟩ := hV7.at_ (show 0 < [a2].length by simp)
      subst hgv
      have hlen1 : [a2].length = 1 := rfl
      go_wp2_with (first | (refine wpList_load_row rfl 33 _ rfl _ rfl _ _ (0, 0) _ (by assumption) Tryz.underlying33 rfl (by kernel_rfl) ?_) | (refine wpList_load_rowG (by rfl) 33 _ rfl _ rfl _ _ (0, 0) _ (by assumption) Tryz.underlying33 rfl (by kernel_rfl) ?_))
      refine wp_region_held_drew (S := (fun w' => w'.heap[w1.heap.size]? = some (.cells #[.int .i64 la, .int .i64 dy, .int .i64 mi, .slice A m cp, .int .i64 e1, .int .i64 n1, .int .i64 fe, .int .i64 fn, .int .i64 fu, .int .i64 ho, .int .i64 ha, .int .i64 ne, .int .i64 lo, .int .i64 hi, .bool up, .int .i64 st] 33 (0, 0)) ∧ w'.heap[w2.heap.size]? = some (.cells #[.int .i64 la, .int .i64 d2, .int .i64 m2, .slice A2 m cp2, .int .i64 e1, .int .i64 n1, .int .i64 fe, .int .i64 fn, .int .i64 fu, .int .i64 ho, .int .i64 a2, .int .i64 ne, .int .i64 lo, .int .i64 hi, .bool u2, .int .i64 t2] 33 (0, 0)) ∧ w'.heap[w5.heap.size]? = some (.cells #[.int .i64 la, .int .i64 d2, .int .i64 m2, .slice A m cp, .int .i64 e1, .int .i64 n1, .int .i64 fe, .int .i64 fn, .int .i64 fu, .int .i64 ho, .int .i64 a2, .int .i64 ne, .int .i64 lo, .int .i64 hi, .bool u2, .int .i64 t2] 33 (0, 0)) ∧ SOwn encBlock w' w.heap.size 40 A cp xs ∧ SOwn encBlock w' w.heap.size 40 A2 cp2 xs ∧ SOwn encNum w' w.heap.size 3 (some ⟨gv, 0, none⟩) cv [a2] ∧ Below w.heap.size w w')) (by kernel_rfl) ⟨hP7, hX7, hQ7, hO7.drew, hY7.drew, hV7.drew, hB7.drew⟩ (fun hHeld => ?_)
      obtain ⟨hP_0, hX_0, hQ_0, hO_0, hY_0, hV_0, hB_0⟩ := id hHeld
      refine wpAnyH_take (i := 0) (oi := _) (v := ?_) rfl (by kernel_rfl) (by kernel_rfl) (by kernel_rfl) (fun _ _ _ h => h) (Or.inl ⟨by rfl, ?_⟩) (by assumption) ?_
      (rotate_left); (focus (intro wv hSw; (obtain ⟨qP, qX, qQ, qO, qY, qV, qB⟩ := hSw); refine run_load_row9 33 ?x9_6 ?h9_6 _ ?e9_6 _ _ (0, 0) _ qX Tryz.underlying33 rfl (by kernel_rfl); (case h9_6 => rfl); (case e9_6 => rfl)))
      try simp only [Act.put, List.getElem_toArray, List.getElem_cons_succ, List.getElem_cons_zero, List.setIfInBounds_toArray, List.set_cons_zero, List.set_cons_succ]
      refine wpAnyH_ready (rs := [1]) (by kernel_rfl) (by simp) ?_
      refine AllReadyH.cons (o := _) rfl (fun K hK => ?_) AllReadyH.nil
      go_simp
      (go_at_call 27; refine (iSV_is la d2 m2 e1 n1 fe fn fu ho a2 ne lo hi t2 u2 A2 cp2 xs _ HM.out hY_0.row (by omega) HV2.out).mono ?_; rintro e x0c ⟨rfl, hw_0c⟩)
      refine hK.out _ _ ⟨blk_next hP_0 hw_0c, blk_next hX_0 hw_0c, blk_next hQ_0 hw_0c, hO_0.next hw_0c, hY_0.next hw_0c, hV_0.next hw_0c, bel_next hB_0 hw_0c⟩ (fun hHeld => ?_)
      clear hK K
      try simp only [Act.put, List.getElem_toArray, List.getElem_cons_succ, List.getElem_cons_zero, List.setIfInBounds_toArray, List.set_cons_zero, List.set_cons_succ]
      obtain ⟨hP_0c, hX_0c, hQ_0c, hO_0c, hY_0c, hV_0c, hB_0c⟩ := id hHeld
      refine wpAnyH_take (i := 2) (oi := _) (v := ?_) rfl (by kernel_rfl) (by kernel_rfl) (by kernel_rfl) (fun _ _ _ h => h) (Or.inl ⟨by rfl, ?_⟩) (by assumption) ?_
      (rotate_left); (focus (intro wv hSw; (obtain ⟨qP, qX, qQ, qO, qY, qV, qB⟩ := hSw);  go_simp; (try with_reducible rfl)))
      try simp only [Act.put, List.getElem_toArray, List.getElem_cons_succ, List.getElem_cons_zero, List.setIfInBounds_toArray, List.set_cons_zero, List.set_cons_succ]
      refine wpAnyH_take (i := 3) (oi := _) (v := ?_) rfl (by kernel_rfl) (by kernel_rfl) (by kernel_rfl) (fun _ _ _ h => h) (Or.inl ⟨by rfl, ?_⟩) (by assumption) ?_
      (rotate_left); (focus (intro wv hSw; (obtain ⟨qP, qX, qQ, qO, qY, qV, qB⟩ := hSw); refine run_load_row9 33 ?x9_7 ?h9_7 _ ?e9_7 _ _ (0, 0) _ qQ Tryz.underlying33 rfl (by kernel_rfl); (case h9_7 => rfl); (case e9_7 => rfl)))
      try simp only [Act.put, List.getElem_toArray, List.getElem_cons_succ, List.getElem_cons_zero, List.setIfInBounds_toArray, List.set_cons_zero, List.set_cons_succ]
      refine wpAnyH_take (i := 4) (oi := _) (v := ?_) rfl (by kernel_rfl) (by kernel_rfl) (by kernel_rfl) (fun _ _ _ h => h) (Or.inl ⟨by rfl, ?_⟩) (by assumption) ?_
      (rotate_left); (focus (intro wv hSw; (obtain ⟨qP, qX, qQ, qO, qY, qV, qB⟩ := hSw); refine run_load_row9 33 ?x9_8 ?h9_8 _ ?e9_8 _ _ (0, 0) _ qX Tryz.underlying33 rfl (by kernel_rfl); (case h9_8 => rfl); (case e9_8 => rfl)))
      try simp only [Act.put, List.getElem_toArray, List.getElem_cons_succ, List.getElem_cons_zero, List.setIfInBounds_toArray, List.set_cons_zero, List.set_cons_succ]
      refine wpAnyH_ready (rs := [5]) (by kernel_rfl) (by simp) ?_
      refine AllReadyH.cons (o := _) rfl (fun K hK => ?_) AllReadyH.nil
      go_simp
      (go_at_call 22; refine (sameSite_is la d2 m2 e1 n1 fe fn fu ho a2 ne lo hi t2 u2 A A2 cp cp2 xs HM.out hO_0c.row hY_0c.row (by omega)).mono ?_; rintro e x0cc ⟨rfl, hw_0cc⟩)
      refine hK.out _ _ ⟨blk_next hP_0c hw_0cc, blk_next hX_0c hw_0cc, blk_next hQ_0c hw_0cc, hO_0c.next hw_0cc, hY_0c.next hw_0cc, hV_0c.next hw_0cc, bel_next hB_0c hw_0cc⟩ (fun hHeld => ?_)
      clear hK K
      try simp only [Act.put, List.getElem_toArray, List.getElem_cons_succ, List.getElem_cons_zero, List.setIfInBounds_toArray, List.set_cons_zero, List.set_cons_succ]
      obtain ⟨hP_0cc, hX_0cc, hQ_0cc, hO_0cc, hY_0cc, hV_0cc, hB_0cc⟩ := id hHeld
      refine wpAnyH_take (i := 6) (oi := _) (v := ?_) rfl (by kernel_rfl) (by kernel_rfl) (by kernel_rfl) (fun _ _ _ h => h) (Or.inl ⟨by rfl, ?_⟩) (by assumption) ?_
      (rotate_left); (focus (intro wv hSw; (obtain ⟨qP, qX, qQ, qO, qY, qV, qB⟩ := hSw);  go_simp; (try with_reducible rfl)))
      try simp only [Act.put, List.getElem_toArray, List.getElem_cons_succ, List.getElem_cons_zero, List.setIfInBounds_toArray, List.set_cons_zero, List.set_cons_succ]
      refine wpAnyH_take (i := 7) (oi := _) (v := ?_) rfl (by kernel_rfl) (by kernel_rfl) (by kernel_rfl) (fun _ _ _ h => h) (Or.inl ⟨by rfl, ?_⟩) (by assumption) ?_
      (rotate_left); (focus (intro wv hSw; (obtain ⟨qP, qX, qQ, qO, qY, qV, qB⟩ := hSw);  go_simp; (try with_reducible rfl)))
      try simp only [Act.put, List.getElem_toArray, List.getElem_cons_succ, List.getElem_cons_zero, List.setIfInBounds_toArray, List.set_cons_zero, List.set_cons_succ]
      refine wpAnyH_take (i := 8) (oi := _) (v := ?_) rfl (by kernel_rfl) (by kernel_rfl) (by kernel_rfl) (fun _ _ _ h => h) (Or.inl ⟨by rfl, ?_⟩) (by assumption) ?_
      (rotate_left); (focus (intro wv hSw; (obtain ⟨qP, qX, qQ, qO, qY, qV, qB⟩ := hSw); refine run_load_row9 33 ?x9_9 ?h9_9 _ ?e9_9 _ _ (0, 0) _ qX Tryz.underlying33 rfl (by kernel_rfl); (case h9_9 => rfl); (case e9_9 => rfl)))
      try simp only [Act.put, List.getElem_toArray, List.getElem_cons_succ, List.getElem_cons_zero, List.setIfInBounds_toArray, List.set_cons_zero, List.set_cons_succ]
      refine wpAnyH_take (i := 10) (oi := _) (v := ?_) rfl (by kernel_rfl) (by kernel_rfl) (by kernel_rfl) (fun _ _ _ h => h) (Or.inl ⟨by rfl, ?_⟩) (by assumption) ?_
      (rotate_left); (focus (intro wv hSw; (obtain ⟨qP, qX, qQ, qO, qY, qV, qB⟩ := hSw); refine run_load_row9 33 ?x9_10 ?h9_10 _ ?e9_10 _ _ (0, 0) _ qP Tryz.underlying33 rfl (by kernel_rfl); (case h9_10 => rfl); (case e9_10 => rfl)))
      try simp only [Act.put, List.getElem_toArray, List.getElem_cons_succ, List.getElem_cons_zero, List.setIfInBounds_toArray, List.set_cons_zero, List.set_cons_succ]
      refine wpAnyH_ready (rs := [9]) (by kernel_rfl) (by simp) ?_
      refine AllReadyH.cons (o := _) rfl (fun K hK => ?_) AllReadyH.nil
      go_simp
      (go_at_call 28; refine (quarterOf_is la d2 m2 e1 n1 fe fn fu ho a2 ne lo hi t2 u2 A2 m cp2 _ k2.1 k2.2 k3.1 k3.2 HQ2.out).mono ?_; rintro e x0ccc ⟨rfl, hw_0ccc⟩)
      refine hK.out _ _ ⟨blk_next hP_0cc hw_0ccc, blk_next hX_0cc hw_0ccc, blk_next hQ_0cc hw_0ccc, hO_0cc.next hw_0ccc, hY_0cc.next hw_0ccc, hV_0cc.next hw_0ccc, bel_next hB_0cc hw_0ccc⟩ (fun hHeld => ?_)
      clear hK K
      try simp only [Act.put, List.getElem_toArray, List.getElem_cons_succ, List.getElem_cons_zero, List.setIfInBounds_toArray, List.set_cons_zero, List.set_cons_succ]
      obtain ⟨hP_0ccc, hX_0ccc, hQ_0ccc, hO_0ccc, hY_0ccc, hV_0ccc, hB_0ccc⟩ := id hHeld
      refine wpAnyH_ready (rs := [11]) (by kernel_rfl) (by simp) ?_
      refine AllReadyH.cons (o := _) rfl (fun K hK => ?_) AllReadyH.nil
      go_simp
      (go_at_call 28; refine (quarterOf_is la dy mi e1 n1 fe fn fu ho ha ne lo hi st up A m cp _ v2.1 v2.2 v3.1 v3.2 HQ0.out).mono ?_; rintro e x0cccc ⟨rfl, hw_0cccc⟩)
      refine hK.out _ _ ⟨blk_next hP_0ccc hw_0cccc, blk_next hX_0ccc hw_0cccc, blk_next hQ_0ccc hw_0cccc, hO_0ccc.next hw_0cccc, hY_0ccc.next hw_0cccc, hV_0ccc.next hw_0cccc, bel_next hB_0ccc hw_0cccc⟩ (fun hHeld => ?_)
      clear hK K
      try simp only [Act.put, List.getElem_toArray, List.getElem_cons_succ, List.getElem_cons_zero, List.setIfInBounds_toArray, List.set_cons_zero, List.set_cons_succ]
      obtain ⟨hP_0cccc, hX_0cccc, hQ_0cccc, hO_0cccc, hY_0cccc, hV_0cccc, hB_0cccc⟩ := id hHeld
      refine wpAnyH_take (i := 12) (oi := _) (v := ?_) rfl (by kernel_rfl) (by kernel_rfl) (by kernel_rfl) (fun _ _ _ h => h) (Or.inl ⟨by rfl, ?_⟩) (by assumption) ?_
      (rotate_left); (focus (intro wv hSw; (obtain ⟨qP, qX, qQ, qO, qY, qV, qB⟩ := hSw);  go_simp; (try with_reducible rfl)))
      try simp only [Act.put, List.getElem_toArray, List.getElem_cons_succ, List.getElem_cons_zero, List.setIfInBounds_toArray, List.set_cons_zero, List.set_cons_succ]
      refine wpAnyH_take (i := 13) (oi := _) (v := ?_) rfl (by kernel_rfl) (by kernel_rfl) (by kernel_rfl) (fun _ _ _ h => h) (Or.inl ⟨by rfl, ?_⟩) (by assumption) ?_
      (rotate_left); (focus (intro wv hSw; (obtain ⟨qP, qX, qQ, qO, qY, qV, qB⟩ := hSw);  go_simp; (try with_reducible rfl)))
      try simp only [Act.put, List.getElem_toArray, List.getElem_cons_succ, List.getElem_cons_zero, List.setIfInBounds_toArray, List.set_cons_zero, List.set_cons_succ]
      refine wpAnyH_take (i := 14) (oi := _) (v := ?_) rfl (by kernel_rfl) (by kernel_rfl) (by kernel_rfl) (fun _ _ _ h => h) (Or.inl ⟨by rfl, ?_⟩) (by assumption) ?_
      (rotate_left); (focus (intro wv hSw; (obtain ⟨qP, qX, qQ, qO, qY, qV, qB⟩ := hSw);  go_simp; (try with_reducible rfl)))
      try simp only [Act.put, List.getElem_toArray, List.getElem_cons_succ, List.getElem_cons_zero, List.setIfInBounds_toArray, List.set_cons_zero, List.set_cons_succ]
      refine wpAnyH_take (i := 15) (oi := _) (v := ?_) rfl (by kernel_rfl) (by kernel_rfl) (by kernel_rfl) (fun _ _ _ h => h) (Or.inl ⟨by rfl, ?_⟩) (by assumption) ?_
      (rotate_left); (focus (intro wv hSw; (obtain ⟨qP, qX, qQ, qO, qY, qV, qB⟩ := hSw);  go_simp; (try with_reducible rfl)))
      try simp only [Act.put, List.getElem_toArray, List.getElem_cons_succ, List.getElem_cons_zero, List.setIfInBounds_toArray, List.set_cons_zero, List.set_cons_succ]
      refine wpAnyH_take (i := 16) (oi := _) (v := ?_) rfl (by kernel_rfl) (by kernel_rfl) (by kernel_rfl) (fun _ _ _ h => h) (Or.inl ⟨by rfl, ?_⟩) (by assumption) ?_
      (rotate_left); (focus (intro wv hSw; (obtain ⟨qP, qX, qQ, qO, qY, qV, qB⟩ := hSw);  go_simp; (try with_reducible rfl)))
      try simp only [Act.put, List.getElem_toArray, List.getElem_cons_succ, List.getElem_cons_zero, List.setIfInBounds_toArray, List.set_cons_zero, List.set_cons_succ]
      refine wpAnyH_take (i := 17) (oi := _) (v := ?_) rfl (by kernel_rfl) (by kernel_rfl) (by kernel_rfl) (fun _ _ _ h => h) (Or.inl ⟨by rfl, ?_⟩) (by assumption) ?_
      (rotate_left); (focus (intro wv hSw; (obtain ⟨qP, qX, qQ, qO, qY, qV, qB⟩ := hSw);  go_simp; (try with_reducible rfl)))
      try simp only [Act.put, List.getElem_toArray, List.getElem_cons_succ, List.getElem_cons_zero, List.setIfInBounds_toArray, List.set_cons_zero, List.set_cons_succ]
      refine wpAnyH_take (i := 18) (oi := _) (v := ?_) rfl (by kernel_rfl) (by kernel_rfl) (by kernel_rfl) (fun _ _ _ h => h) (Or.inl ⟨by rfl, ?_⟩) (by assumption) ?_
      (rotate_left); (focus (intro wv hSw; (obtain ⟨qP, qX, qQ, qO, qY, qV, qB⟩ := hSw);  go_simp; (try with_reducible rfl)))
      try simp only [Act.put, List.getElem_toArray, List.getElem_cons_succ, List.getElem_cons_zero, List.setIfInBounds_toArray, List.set_cons_zero, List.set_cons_succ]
      refine wpAnyH_take (i := 19) (oi := _) (v := ?_) rfl (by kernel_rfl) (by kernel_rfl) (by kernel_rfl) (fun _ _ _ h => h) (Or.inl ⟨by rfl, ?_⟩) (by assumption) ?_
      (rotate_left); (focus (intro wv hSw; (obtain ⟨qP, qX, qQ, qO, qY, qV, qB⟩ := hSw);  go_simp; (try with_reducible rfl)))
      try simp only [Act.put, List.getElem_toArray, List.getElem_cons_succ, List.getElem_cons_zero, List.setIfInBounds_toArray, List.set_cons_zero, List.set_cons_succ]
      refine wpAnyH_take (i := 20) (oi := _) (v := ?_) rfl (by kernel_rfl) (by kernel_rfl) (by kernel_rfl) (fun _ _ _ h => h) (Or.inl ⟨by rfl, ?_⟩) (by assumption) ?_
      (rotate_left); (focus (intro wv hSw; (obtain ⟨qP, qX, qQ, qO, qY, qV, qB⟩ := hSw);  go_simp; (try with_reducible rfl)))
      try simp only [Act.put, List.getElem_toArray, List.getElem_cons_succ, List.getElem_cons_zero, List.setIfInBounds_toArray, List.set_cons_zero, List.set_cons_succ]
      refine wpAnyH_take (i := 21) (oi := _) (v := ?_) rfl (by kernel_rfl) (by kernel_rfl) (by kernel_rfl) (fun _ _ _ h => h) (Or.inl ⟨by rfl, ?_⟩) (by assumption) ?_
      (rotate_left); (focus (intro wv hSw; (obtain ⟨qP, qX, qQ, qO, qY, qV, qB⟩ := hSw);  go_simp; (try with_reducible rfl)))
      try simp only [Act.put, List.getElem_toArray, List.getElem_cons_succ, List.getElem_cons_zero, List.setIfInBounds_toArray, List.set_cons_zero, List.set_cons_succ]
      refine wpAnyH_take (i := 22) (oi := _) (v := ?_) rfl (by kernel_rfl) (by kernel_rfl) (by kernel_rfl) (fun _ _ _ h => h) (Or.inl ⟨by rfl, ?_⟩) (by assumption) ?_
      (rotate_left); (focus (intro wv hSw; (obtain ⟨qP, qX, qQ, qO, qY, qV, qB⟩ := hSw);  go_simp; (try with_reducible rfl)))
      try simp only [Act.put, List.getElem_toArray, List.getElem_cons_succ, List.getElem_cons_zero, List.setIfInBounds_toArray, List.set_cons_zero, List.set_cons_succ]
      refine wpAnyH_take (i := 23) (oi := _) (v := ?_) rfl (by kernel_rfl) (by kernel_rfl) (by kernel_rfl) (fun _ _ _ h => h) (Or.inl ⟨by rfl, ?_⟩) (by assumption) ?_
      (rotate_left); (focus (intro wv hSw; (obtain ⟨qP, qX, qQ, qO, qY, qV, qB⟩ := hSw);  go_simp; (try with_reducible rfl)))
      try simp only [Act.put, List.getElem_toArray, List.getElem_cons_succ, List.getElem_cons_zero, List.setIfInBounds_toArray, List.set_cons_zero, List.set_cons_succ]
      refine wpAnyH_take (i := 24) (oi := _) (v := ?_) rfl (by kernel_rfl) (by kernel_rfl) (by kernel_rfl) (fun _ _ _ h => h) (Or.inl ⟨by rfl, ?_⟩) (by assumption) ?_
      (rotate_left); (focus (intro wv hSw; (obtain ⟨qP, qX, qQ, qO, qY, qV, qB⟩ := hSw);  have qc := ownNum qV (i := 0) (by simp); simp at qc; go_simp; (try with_reducible rfl)))
      try simp only [Act.put, List.getElem_toArray, List.getElem_cons_succ, List.getElem_cons_zero, List.setIfInBounds_toArray, List.set_cons_zero, List.set_cons_succ]
      refine wpAnyH_take (i := 25) (oi := _) (v := ?_) rfl (by kernel_rfl) (by kernel_rfl) (by kernel_rfl) (fun _ _ _ h => h) (Or.inl ⟨by rfl, ?_⟩) (by assumption) ?_
      (rotate_left); (focus (intro wv hSw; (obtain ⟨qP, qX, qQ, qO, qY, qV, qB⟩ := hSw);  go_simp; (try with_reducible rfl)))
      try simp only [Act.put, List.getElem_toArray, List.getElem_cons_succ, List.getElem_cons_zero, List.setIfInBounds_toArray, List.set_cons_zero, List.set_cons_succ]
      refine wpAnyH_take (i := 26) (oi := _) (v := ?_) rfl (by kernel_rfl) (by kernel_rfl) (by kernel_rfl) (fun _ _ _ h => h) (Or.inl ⟨by rfl, ?_⟩) (by assumption) ?_
      (rotate_left); (focus (intro wv hSw; (obtain ⟨qP, qX, qQ, qO, qY, qV, qB⟩ := hSw); obtain ⟨_, _, _, _, _, _, _, _, _, _, _, _, _, _, _, _, _, _, _, _, _, _, _, _, _, _, _, _, _, _, _, _, _⟩ := blk16 qX; go_simp; (try with_reducible rfl)))
      try simp only [Act.put, List.getElem_toArray, List.getElem_cons_succ, List.getElem_cons_zero, List.setIfInBounds_toArray, List.set_cons_zero, List.set_cons_succ]
      refine wpAnyH_take (i := 27) (oi := _) (v := ?_) rfl (by kernel_rfl) (by kernel_rfl) (by kernel_rfl) (fun _ _ _ h => h) (Or.inl ⟨by rfl, ?_⟩) (by assumption) ?_
      (rotate_left); (focus (intro wv hSw; (obtain ⟨qP, qX, qQ, qO, qY, qV, qB⟩ := hSw);  go_simp; (try with_reducible rfl)))
      try simp only [Act.put, List.getElem_toArray, List.getElem_cons_succ, List.getElem_cons_zero, List.setIfInBounds_toArray, List.set_cons_zero, List.set_cons_succ]
      refine wpAnyH_take (i := 28) (oi := _) (v := ?_) rfl (by kernel_rfl) (by kernel_rfl) (by kernel_rfl) (fun _ _ _ h => h) (Or.inl ⟨by rfl, ?_⟩) (by assumption) ?_
      (rotate_left); (focus (intro wv hSw; (obtain ⟨qP, qX, qQ, qO, qY, qV, qB⟩ := hSw);  go_simp; (try with_reducible rfl)))
      try simp only [Act.put, List.getElem_toArray, List.getElem_cons_succ, List.getElem_cons_zero, List.setIfInBounds_toArray, List.set_cons_zero, List.set_cons_succ]
      refine wpAnyH_take (i := 29) (oi := _) (v := ?_) rfl (by kernel_rfl) (by kernel_rfl) (by kernel_rfl) (fun _ _ _ h => h) (Or.inl ⟨by rfl, ?_⟩) (by assumption) ?_
      (rotate_left); (focus (intro wv hSw; (obtain ⟨qP, qX, qQ, qO, qY, qV, qB⟩ := hSw);  go_simp; (try with_reducible rfl)))
      try simp only [Act.put, List.getElem_toArray, List.getElem_cons_succ, List.getElem_cons_zero, List.setIfInBounds_toArray, List.set_cons_zero, List.set_cons_succ]
      refine wpAnyH_take (i := 30) (oi := _) (v := ?_) rfl (by kernel_rfl) (by kernel_rfl) (by kernel_rfl) (fun _ _ _ h => h) (Or.inl ⟨by rfl, ?_⟩) (by assumption) ?_
      (rotate_left); (focus (intro wv hSw; (obtain ⟨qP, qX, qQ, qO, qY, qV, qB⟩ := hSw);  go_simp; (try with_reducible rfl)))
      try simp only [Act.put, List.getElem_toArray, List.getElem_cons_succ, List.getElem_cons_zero, List.setIfInBounds_toArray, List.set_cons_zero, List.set_cons_succ]
      refine wpAnyH_take (i := 31) (oi := _) (v := ?_) rfl (by kernel_rfl) (by kernel_rfl) (by kernel_rfl) (fun _ _ _ h => h) (Or.inl ⟨by rfl, ?_⟩) (by assumption) ?_
      (rotate_left); (focus (intro wv hSw; (obtain ⟨qP, qX, qQ, qO, qY, qV, qB⟩ := hSw); obtain ⟨_, _, _, _, _, _, _, _, _, _, _, _, _, _, _, _, _, _, _, _, _, _, _, _, _, _, _, _, _, _, _, _, _⟩ := blk16 qP; go_simp; (try with_reducible rfl)))
      try simp only [Act.put, List.getElem_toArray, List.getElem_cons_succ, List.getElem_cons_zero, List.setIfInBounds_toArray, List.set_cons_zero, List.set_cons_succ]
      refine wpAnyH_take (i := 32) (oi := _) (v := ?_) rfl (by kernel_rfl) (by kernel_rfl) (by kernel_rfl) (fun _ _ _ h => h) (Or.inl ⟨by rfl, ?_⟩) (by assumption) ?_
      (rotate_left); (focus (intro wv hSw; (obtain ⟨qP, qX, qQ, qO, qY, qV, qB⟩ := hSw);  go_simp; (try with_reducible rfl)))
      try simp only [Act.put, List.getElem_toArray, List.getElem_cons_succ, List.getElem_cons_zero, List.setIfInBounds_toArray, List.set_cons_zero, List.set_cons_succ]
      refine wpAnyH_take (i := 33) (oi := _) (v := ?_) rfl (by kernel_rfl) (by kernel_rfl) (by kernel_rfl) (fun _ _ _ h => h) (Or.inl ⟨by rfl, ?_⟩) (by assumption) ?_
      (rotate_left); (focus (intro wv hSw; (obtain ⟨qP, qX, qQ, qO, qY, qV, qB⟩ := hSw); obtain ⟨_, _, _, _, _, _, _, _, _, _, _, _, _, _, _, _, _, _, _, _, _, _, _, _, _, _, _, _, _, _, _, _, _⟩ := blk16 qP; go_simp; (try with_reducible rfl)))
      try simp only [Act.put, List.getElem_toArray, List.getElem_cons_succ, List.getElem_cons_zero, List.setIfInBounds_toArray, List.set_cons_zero, List.set_cons_succ]
      refine wpAnyH_take (i := 34) (oi := _) (v := ?_) rfl (by kernel_rfl) (by kernel_rfl) (by kernel_rfl) (fun _ _ _ h => h) (Or.inl ⟨by rfl, ?_⟩) (by assumption) ?_
      (rotate_left); (focus (intro wv hSw; (obtain ⟨qP, qX, qQ, qO, qY, qV, qB⟩ := hSw); refine run_load_row9 33 ?x9_11 ?h9_11 _ ?e9_11 _ _ (0, 0) _ qX Tryz.underlying33 rfl (by kernel_rfl); (case h9_11 => rfl); (case e9_11 => rfl)))
      try simp only [Act.put, List.getElem_toArray, List.getElem_cons_succ, List.getElem_cons_zero, List.setIfInBounds_toArray, List.set_cons_zero, List.set_cons_succ]
      refine wpAnyH_take (i := 37) (oi := _) (v := ?_) rfl (by kernel_rfl) (by kernel_rfl) (by kernel_rfl) (fun _ _ _ h => h) (Or.inl ⟨by rfl, ?_⟩) (by assumption) ?_
      (rotate_left); (focus (intro wv hSw; (obtain ⟨qP, qX, qQ, qO, qY, qV, qB⟩ := hSw);  go_simp; (try with_reducible rfl)))
      try simp only [Act.put, List.getElem_toArray, List.getElem_cons_succ, List.getElem_cons_zero, List.setIfInBounds_toArray, List.set_cons_zero, List.set_cons_succ]
      refine wpAnyH_take (i := 38) (oi := _) (v := ?_) rfl (by kernel_rfl) (by kernel_rfl) (by kernel_rfl) (fun _ _ _ h => h) (Or.inl ⟨by rfl, ?_⟩) (by assumption) ?_
      (rotate_left); (focus (intro wv hSw; (obtain ⟨qP, qX, qQ, qO, qY, qV, qB⟩ := hSw); obtain ⟨_, _, _, _, _, _, _, _, _, _, _, _, _, _, _, _, _, _, _, _, _, _, _, _, _, _, _, _, _, _, _, _, _⟩ := blk16 qX; go_simp; (try with_reducible rfl)))
      try simp only [Act.put, List.getElem_toArray, List.getElem_cons_succ, List.getElem_cons_zero, List.setIfInBounds_toArray, List.set_cons_zero, List.set_cons_succ]
      refine wpAnyH_ready (rs := [35]) (by kernel_rfl) (by simp) ?_
      refine AllReadyH.cons (o := _) rfl (fun K hK => ?_) AllReadyH.nil
      go_simp
      (go_at_call 11; refine (iSL_is la d2 m2 e1 n1 fe fn fu ho a2 ne lo hi t2 u2 A2 cp2 xs _ HM.out hY_0cccc.row (by omega) HX.out).mono ?_; rintro e x0ccccc ⟨rfl, hw_0ccccc⟩)
      refine hK.out _ _ ⟨blk_next hP_0cccc hw_0ccccc, blk_next hX_0cccc hw_0ccccc, blk_next hQ_0cccc hw_0ccccc, hO_0cccc.next hw_0ccccc, hY_0cccc.next hw_0ccccc, hV_0cccc.next hw_0ccccc, bel_next hB_0cccc hw_0ccccc⟩ (fun hHeld => ?_)
      clear hK K
      try simp only [Act.put, List.getElem_toArray, List.getElem_cons_succ, List.getElem_cons_zero, List.setIfInBounds_toArray, List.set_cons_zero, List.set_cons_succ]
      obtain ⟨hP_0ccccc, hX_0ccccc, hQ_0ccccc, hO_0ccccc, hY_0ccccc, hV_0ccccc, hB_0ccccc⟩ := id hHeld
      refine wpAnyH_ready (rs := [36]) (by kernel_rfl) (by simp) ?_
      refine AllReadyH.cons (o := _) rfl (fun K hK => ?_) AllReadyH.nil
      go_simp
      (go_at_call 29; refine (iPs_is _ HU.out HTT.out).mono ?_; rintro e x0cccccc ⟨rfl, hw_0cccccc⟩)
      refine hK.out _ _ ⟨blk_next hP_0ccccc hw_0cccccc, blk_next hX_0ccccc hw_0cccccc, blk_next hQ_0ccccc hw_0cccccc, hO_0ccccc.next hw_0cccccc, hY_0ccccc.next hw_0cccccc, hV_0ccccc.next hw_0cccccc, bel_next hB_0ccccc hw_0cccccc⟩ (fun hHeld => ?_)
      clear hK K
      try simp only [Act.put, List.getElem_toArray, List.getElem_cons_succ, List.getElem_cons_zero, List.setIfInBounds_toArray, List.set_cons_zero, List.set_cons_succ]
      obtain ⟨hP_0cccccc, hX_0cccccc, hQ_0cccccc, hO_0cccccc, hY_0cccccc, hV_0cccccc, hB_0cccccc⟩ := id hHeld
      refine wpAnyH_take (i := 39) (oi := _) (v := ?_) rfl (by kernel_rfl) (by kernel_rfl) (by kernel_rfl) (fun _ _ _ h => h) (Or.inl ⟨by rfl, ?_⟩) (by assumption) ?_
      (rotate_left); (focus (intro wv hSw; (obtain ⟨qP, qX, qQ, qO, qY, qV, qB⟩ := hSw);  go_simp; (try with_reducible rfl)))
      try simp only [Act.put, List.getElem_toArray, List.getElem_cons_succ, List.getElem_cons_zero, List.setIfInBounds_toArray, List.set_cons_zero, List.set_cons_succ]
      refine wpAnyH_take (i := 40) (oi := _) (v := ?_) rfl (by kernel_rfl) (by kernel_rfl) (by kernel_rfl) (fun _ _ _ h => h) (Or.inl ⟨by rfl, ?_⟩) (by assumption) ?_
      (rotate_left); (focus (intro wv hSw; (obtain ⟨qP, qX, qQ, qO, qY, qV, qB⟩ := hSw);  go_simp; (try with_reducible rfl)))
      try simp only [Act.put, List.getElem_toArray, List.getElem_cons_succ, List.getElem_cons_zero, List.setIfInBounds_toArray, List.set_cons_zero, List.set_cons_succ]
      refine wpAnyH_take (i := 41) (oi := _) (v := ?_) rfl (by kernel_rfl) (by kernel_rfl) (by kernel_rfl) (fun _ _ _ h => h) (Or.inl ⟨by rfl, ?_⟩) (by assumption) ?_
      (rotate_left); (focus (intro wv hSw; (obtain ⟨qP, qX, qQ, qO, qY, qV, qB⟩ := hSw);  go_simp; (try with_reducible rfl)))
      try simp only [Act.put, List.getElem_toArray, List.getElem_cons_succ, List.getElem_cons_zero, List.setIfInBounds_toArray, List.set_cons_zero, List.set_cons_succ]
      refine wpAnyH_done (by kernel_rfl) ?_ _
      go_wp2_with (first | (refine wpList_load_row rfl 33 _ rfl _ rfl _ _ (0, 0) _ (by assumption) Tryz.underlying33 rfl (by kernel_rfl) ?_) | (refine wpList_load_rowG (by rfl) 33 _ rfl _ rfl _ _ (0, 0) _ (by assumption) Tryz.underlying33 rfl (by kernel_rfl) ?_))
      go_ret
      exact ⟨rfl, hB_0cccccc⟩
set_option maxRecDepth 100000 in
theorem lifted (os : Os) (started : os.Started) (H : Type) (enc : TypeId × Value → H) :
    ReturnsInHanded {} Tryz.checked os 5 .any (Rows.fnSiteTickSpec.pre6 enc Tryz.prog Tryz.f5 Rows.fnSiteTickRow.domain false) (Rows.fnSiteTickSpec.post enc Tryz.prog Tryz.f5 false true false false) := by
  refine returnsInHanded_of_change (C := Tryz.checked) own started (by kernel_rfl) Tryz.func5
    (ChangeSpec.witness6 (enc := enc) (C := Tryz.checked) false ⟨#[], #[.slice none 0 0], []⟩ 8 (by kernel_rfl) (by kernel_rfl) (by kernel_rfl) (by kernel_rfl)) ?_
  intro W base args ds gs before hval0 hW hcnd _
  have hval : ∀ (j : Nat) t v, Tryz.f5.params[j]? = some t → args[j]? = some v → Value.okWide Tryz.prog W .any base t v := hval0
  have hW' := hW
  obtain ⟨p, q, hA0, hV, rfl, hfz, hnd⟩ := hW
  have hA : DataW.TrodAll enc Tryz.prog W 0 (fun _ => true) true Tryz.f5.params.toList args.toList ds p := hA0
  rw [Tryz.params5] at hA hval
  obtain ⟨v0, vs0, d0, ds0, p0, q0, hargs, rfl, rfl, h0, r0⟩ := trodAll_cons hA
  obtain ⟨rfl, rfl, rfl⟩ := trodAll_nil r0
  obtain rfl : args = #[v0] := by cases args; simp_all
  obtain ⟨rfl, rfl⟩ := trodVars_none hV
  have k0 := h0
  have lt0 : ∀ x ∈ p0, x.block < W.heap.size := by obtain ⟨m, hm⟩ := k0; exact DataW.trod_lt m _ _ _ hm
  obtain ⟨a0, len0, cap0, rfl⟩ := okWide_slice Tryz.underlying22 (hval 0 22 v0 rfl rfl)
  have w0 : CodeOk W a0 len0 cap0 := by
    obtain ⟨fuel, hf⟩ := h0
    rcases open_ints Tryz.underlying22 Tryz.underlying5 (by kernel_rfl) hf with ⟨hcs, _⟩ | ⟨x, l, c, zs, hcs, _, hl, hm, hz, _, hcell, hwz⟩
    · simp [Value.cells] at hcs
      obtain ⟨rfl, rfl, rfl⟩ := hcs
      exact code_nil W
    · simp [Value.cells] at hcs
      obtain ⟨rfl, rfl, rfl⟩ := hcs
      exact code_ok hl hm (by simp at hz; omega) hcell hwz
  clear hA0 hval0
  refine (walk W a0 len0 cap0 w0).mono fun e W' ⟨he, bel⟩ => ?_
  subst he
  exact ⟨_, rfl, _, _, _, [], _, [], hW', trodAll_mk1 (shut_bool Tryz.underlying4 _), (trodAll_cons_mk (Below.trod laidOut (by kernel_rfl) (of_decide_eq_true (by kernel_rfl)) k0 bel lt0) trodAll_mk0), rfl, bel.frame _, fun h => by cases h⟩
theorem over : Rows.fnSiteTickRow.holds Tryz.pinned (OpenSpec.ofChange Rows.fnSiteTickSpec) :=
  OpenClaim.holds_of_wide 5 Tryz.f5 rfl rfl rfl rfl rfl rfl rfl ⟨rfl, rfl, rfl, rfl, rfl⟩ rfl rfl rfl rfl rfl (by kernel_rfl) Tryz.func5 (by kernel_rfl)
    (of_decide_eq_true (by kernel_rfl)) (by unfold Func.isWrapper; first | (rw [if_pos (by decide +kernel)]; kernel_rfl) | (rw [if_neg (by decide +kernel)]; exact ⟨rfl, rfl⟩))
    (fun os started H enc _ => lifted os started H enc)
/-- The statement. -/
theorem proved : Rows.FnSiteTickSaid :=
  over
#print axioms proved
end Go.Proofs.YtbklgpghonigjaaGreat.fnSiteTick
