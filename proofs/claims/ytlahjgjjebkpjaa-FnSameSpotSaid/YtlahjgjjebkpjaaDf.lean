/- What the law of spots draws. -/
import Derived.Test.YtlahjgjjebkpjaaDd
namespace Go.Proofs.Ytlahjgjjebkpjaa
open Go Go.ChangeShapes Go.WideShapes Go.ChangeAt Go.RowKit
set_option linter.unusedSimpArgs false
set_option linter.unusedVariables false

def DrewSpots (w : World) (e : Ending) (w' : World) : Prop := ∃ x0 x1 x2 y0 y1 y2 : Int, e = .returned (.tuple #[.agg #[.int .i64 x0, .int .i64 x1, .int .i64 x2], .agg #[.int .i64 y0, .int .i64 y1, .int .i64 y2]]) ∧ (-200 ≤ x0 ∧ x0 ≤ 200) ∧ (-200 ≤ x1 ∧ x1 ≤ 200) ∧ (-200 ≤ x2 ∧ x2 ≤ 200) ∧ (-200 ≤ y0 ∧ y0 ≤ 200) ∧ (-200 ≤ y1 ∧ y1 ≤ 200) ∧ (-200 ≤ y2 ∧ y2 ≤ 200) ∧ Below w.heap.size w w'
set_option maxRecDepth 100000 in
set_option maxHeartbeats 8000000 in
theorem drSameSpot_any (a : Option Addr) (len cap : Nat) (w : World) (h : CodeOk w a len cap) : Calls Try.prog 26 #[.slice a len cap] w (DrewSpots w) := by
  have hX1 := code_below h (bel2 w (.cells #[.int .i64 0, .int .i64 0, .int .i64 0] 40 (0, 0)) (.cells #[.int .i64 0, .int .i64 0, .int .i64 0] 40 (0, 0)))
  go_enter Try.func26, Try.ntmps26
  go_wp2_with fail
  refine (open_any _ _ _ _ hX1).mono ?_; rintro e w1 ⟨B, rfl, hB, h1, hb1⟩
  clear hX1
  obtain ⟨hX1, hY1, hB1⟩ := ownb2 hb1
  have hz1 := blk_lt hY1
  have hB' : w.heap.size + 1 < B := by simp at hB; omega
  clear hB
  have hE1 : Ext B w1 w1 := Ext.refl B w1
  go_wp2_with fail
  refine (pick_any B (0) 30 _ h1 (by omega) (by omega) (by omega)).mono ?_; rintro e w2 ⟨k1, rfl, k10, k11, h2, hx2⟩
  have hX2 := blk_ext hX1 hx2 (by omega)
  have hY2 := blk_ext hY1 hx2 (by omega)
  have hE2 := hE1.trans hx2
  go_wp2_with fail
  refine (pick_any B (0 + 1) 30 _ h2 (by omega) (by omega) (by omega)).mono ?_; rintro e w3 ⟨k2, rfl, k20, k21, h3, hx3⟩
  have hX3 := blk_ext hX2 hx3 (by omega)
  have hY3 := blk_ext hY2 hx3 (by omega)
  have hE3 := hE2.trans hx3
  go_wp2_with fail
  refine (pick_any B (0 + 1 + 1) 8 _ h3 (by omega) (by omega) (by omega)).mono ?_; rintro e w4 ⟨k3, rfl, k30, k31, h4, hx4⟩
  have hX4 := blk_ext hX3 hx4 (by omega)
  have hY4 := blk_ext hY3 hx4 (by omega)
  have hE4 := hE3.trans hx4
  go_wp2_with fail
  refine (pick_any B (0 + 1 + 1 + 1) 2 _ (h4.alloc _) (by omega) (by omega) (by omega)).mono ?_; rintro e w5 ⟨k4, rfl, k40, k41, h5, hx5⟩
  have hC5 := blk_ext (blk_new w4 (.cells #[.int .i64 (k1 - 15), .int .i64 (k2 - 15), .int .i64 k3] 40 (0, 0))) hx5 (by have := h4.lt; omega)
  have hX5 := blk_ext (blk_old hX4 (.cells #[.int .i64 (k1 - 15), .int .i64 (k2 - 15), .int .i64 k3] 40 (0, 0))) hx5 (by omega)
  have hY5 := blk_ext (blk_old hY4 (.cells #[.int .i64 (k1 - 15), .int .i64 (k2 - 15), .int .i64 k3] 40 (0, 0))) hx5 (by omega)
  have hE5 := (hE4.alloc (.cells #[.int .i64 (k1 - 15), .int .i64 (k2 - 15), .int .i64 k3] 40 (0, 0))).trans hx5
  have hzY := blk_lt hY4
  have hzB := h4.lt
  clear hX1 hY1 hE1 h1 hX2 hY2 hE2 h2 hX3 hY3 hE3 h3 hX4 hY4 hE4 h4
  generalize w4.heap.size = C at *
  have n_XY : w.heap.size ≠ w.heap.size + 1 := by omega
  have n_YX : w.heap.size + 1 ≠ w.heap.size := by omega
  have n_CX : C ≠ w.heap.size := by omega
  have n_CY : C ≠ w.heap.size + 1 := by omega
  have e_X : w.heap.size ≤ w.heap.size := by omega
  have e_Y : w.heap.size ≤ w.heap.size + 1 := by omega
  obtain ⟨_, _, _, _, _, _, _⟩ := blk3 hX5
  obtain ⟨_, _, _, _, _, _, _⟩ := blk3 hY5
  obtain ⟨_, _, _, _, _, _, _⟩ := blk3 hC5
  by_cases c : k4 = 0
  · subst c
    have hBl := hB1.trans (hE5.below (N := w.heap.size) (by omega) (by omega))
    go_wp2_with fail
    go_region
    have tX1 := blk3_at0 (v := .int .i64 (k1 - 15)) hX5
    have tY1 := blk_setOther (i := 0) hY5 n_YX (.int .i64 (k1 - 15))
    have tB1 := below_alls hBl e_X 0 (.int .i64 (k1 - 15))
    have tX2 := blk3_at1 (v := .int .i64 (k2 - 15)) tX1
    have tY2 := blk_setOther (i := 1) tY1 n_YX (.int .i64 (k2 - 15))
    have tB2 := below_alls tB1 e_X 1 (.int .i64 (k2 - 15))
    have tX3 := blk3_at2 (v := .int .i64 k3) tX2
    have tY3 := blk_setOther (i := 2) tY2 n_YX (.int .i64 k3)
    have tB3 := below_alls tB2 e_X 2 (.int .i64 k3)
    have tX4 := blk_setOther (i := 0) tX3 n_XY (.int .i64 (3 * (k1 - 15)))
    have tY4 := blk3_at0 (v := .int .i64 (3 * (k1 - 15))) tY3
    have tB4 := below_alls tB3 e_Y 0 (.int .i64 (3 * (k1 - 15)))
    have tX5 := blk_setOther (i := 1) tX4 n_XY (.int .i64 (3 * (k2 - 15)))
    have tY5 := blk3_at1 (v := .int .i64 (3 * (k2 - 15))) tY4
    have tB5 := below_alls tB4 e_Y 1 (.int .i64 (3 * (k2 - 15)))
    have tX6 := blk_setOther (i := 2) tX5 n_XY (.int .i64 (3 * k3))
    have tY6 := blk3_at2 (v := .int .i64 (3 * k3)) tY5
    have tB6 := below_alls tB5 e_Y 2 (.int .i64 (3 * k3))
    clear tX1 tX2 tX3 tX4 tX5 tY1 tY2 tY3 tY4 tY5 tB1 tB2 tB3 tB4 tB5
    generalize (World.setCell (World.setCell (World.setCell (World.setCell (World.setCell (World.setCell w5 ⟨w.heap.size, 0, none⟩ (.int .i64 (k1 - 15))) ⟨w.heap.size, 1, none⟩ (.int .i64 (k2 - 15))) ⟨w.heap.size, 2, none⟩ (.int .i64 k3)) ⟨w.heap.size + 1, 0, none⟩ (.int .i64 (3 * (k1 - 15)))) ⟨w.heap.size + 1, 1, none⟩ (.int .i64 (3 * (k2 - 15)))) ⟨w.heap.size + 1, 2, none⟩ (.int .i64 (3 * k3))) = wq at tX6 tY6 tB6 ⊢
    obtain ⟨x0_, x1_, x2_, _, _, _, _⟩ := blk3 (blk_drw tX6)
    obtain ⟨y0_, y1_, y2_, _, _, _, _⟩ := blk3 (blk_drw tY6)
    go_wp2_with fail
    exact bodyPost_ret (v := .tuple #[.agg #[.int .i64 (k1 - 15), .int .i64 (k2 - 15), .int .i64 k3], .agg #[.int .i64 (3 * (k1 - 15)), .int .i64 (3 * (k2 - 15)), .int .i64 (3 * k3)]]) (by simp [results, Try.results26, go_sem, x0_, x1_, x2_, y0_, y1_, y2_]) rfl ⟨_, _, _, _, _, _, rfl, ⟨by omega, by omega⟩, ⟨by omega, by omega⟩, ⟨by omega, by omega⟩, ⟨by omega, by omega⟩, ⟨by omega, by omega⟩, ⟨by omega, by omega⟩, tB6.drew⟩
  · have e0 : (k4 == 0) = false := by rw [beq_eq_false_iff_ne]; omega
    clear c
    have hX_0 := blk_drw hX5
    have hY_0 := blk_drw hY5
    have hC_0 := blk_drw hC5
    have hR_0 := h5.drw
    have hE_0 := hE5.drw
    go_wp2_with fail
    refine wp_region_held_drew (S := (fun w' => w'.heap[C]? = some (.cells #[.int .i64 (k1 - 15), .int .i64 (k2 - 15), .int .i64 k3] 40 (0, 0)))) (by kernel_rfl) (hC_0) (fun hHeld => ?_)
    have hC_0 := id hHeld
    refine wpAnyH_take (i := 0) (oi := _) (v := ?_) rfl (by kernel_rfl) (by kernel_rfl) (by kernel_rfl) (fun _ _ _ h => h) (Or.inl ⟨by rfl, ?_⟩) (by assumption) ?_
    (rotate_left); (focus (intro wv hSw; (have qC := hSw); obtain ⟨_, _, _, _, _, _, _⟩ := blk3 qC; go_simp; (try with_reducible rfl)))
    try simp only [Act.put, List.getElem_toArray, List.getElem_cons_succ, List.getElem_cons_zero, List.setIfInBounds_toArray, List.set_cons_zero, List.set_cons_succ]
    refine wpAnyH_take (i := 1) (oi := _) (v := ?_) rfl (by kernel_rfl) (by kernel_rfl) (by kernel_rfl) (fun _ _ _ h => h) (Or.inl ⟨by rfl, ?_⟩) (by assumption) ?_
    (rotate_left); (focus (intro wv hSw; (have qC := hSw);  go_simp; (try with_reducible rfl)))
    try simp only [Act.put, List.getElem_toArray, List.getElem_cons_succ, List.getElem_cons_zero, List.setIfInBounds_toArray, List.set_cons_zero, List.set_cons_succ]
    refine wpAnyH_take (i := 4) (oi := _) (v := ?_) rfl (by kernel_rfl) (by kernel_rfl) (by kernel_rfl) (fun _ _ _ h => h) (Or.inl ⟨by rfl, ?_⟩) (by assumption) ?_
    (rotate_left); (focus (intro wv hSw; (have qC := hSw);  go_simp; (try with_reducible rfl)))
    try simp only [Act.put, List.getElem_toArray, List.getElem_cons_succ, List.getElem_cons_zero, List.setIfInBounds_toArray, List.set_cons_zero, List.set_cons_succ]
    refine wpAnyH_take (i := 7) (oi := _) (v := ?_) rfl (by kernel_rfl) (by kernel_rfl) (by kernel_rfl) (fun _ _ _ h => h) (Or.inl ⟨by rfl, ?_⟩) (by assumption) ?_
    (rotate_left); (focus (intro wv hSw; (have qC := hSw);  go_simp; (try with_reducible rfl)))
    try simp only [Act.put, List.getElem_toArray, List.getElem_cons_succ, List.getElem_cons_zero, List.setIfInBounds_toArray, List.set_cons_zero, List.set_cons_succ]
    refine wpAnyH_ready (rs := [2]) (by kernel_rfl) (by simp) ?_
    refine AllReadyH.cons (o := _) rfl (fun K hK => ?_) AllReadyH.nil
    go_simp
    (go_at_call 49; refine (pick_any B (0 + 1 + 1 + 1 + 1) 30 _ hR_0 (by omega) (by omega) (by omega)).mono ?_; rintro e x0c ⟨k5, rfl, k50, k51, hR_0c, hw_0c⟩)
    refine hK.out _ _ (blk_ext hC_0 hw_0c (by omega)) (fun hHeld => ?_)
    clear hK K
    try simp only [Act.put, List.getElem_toArray, List.getElem_cons_succ, List.getElem_cons_zero, List.setIfInBounds_toArray, List.set_cons_zero, List.set_cons_succ]
    have hC_0c := id hHeld
    have hX_0c := blk_ext hX_0 hw_0c (by omega)
    have hY_0c := blk_ext hY_0 hw_0c (by omega)
    have hE_0c := hE_0.trans hw_0c
    refine wpAnyH_take (i := 3) (oi := _) (v := ?_) rfl (by kernel_rfl) (by kernel_rfl) (by kernel_rfl) (fun _ _ _ h => h) (Or.inl ⟨by rfl, ?_⟩) (by assumption) ?_
    (rotate_left); (focus (intro wv hSw; (have qC := hSw);  go_simp; (try with_reducible rfl)))
    try simp only [Act.put, List.getElem_toArray, List.getElem_cons_succ, List.getElem_cons_zero, List.setIfInBounds_toArray, List.set_cons_zero, List.set_cons_succ]
    refine wpAnyH_ready (rs := [5]) (by kernel_rfl) (by simp) ?_
    refine AllReadyH.cons (o := _) rfl (fun K hK => ?_) AllReadyH.nil
    go_simp
    (go_at_call 49; refine (pick_any B (0 + 1 + 1 + 1 + 1 + 1) 30 _ hR_0c (by omega) (by omega) (by omega)).mono ?_; rintro e x0cc ⟨k6, rfl, k60, k61, hR_0cc, hw_0cc⟩)
    refine hK.out _ _ (blk_ext hC_0c hw_0cc (by omega)) (fun hHeld => ?_)
    clear hK K
    try simp only [Act.put, List.getElem_toArray, List.getElem_cons_succ, List.getElem_cons_zero, List.setIfInBounds_toArray, List.set_cons_zero, List.set_cons_succ]
    have hC_0cc := id hHeld
    have hX_0cc := blk_ext hX_0c hw_0cc (by omega)
    have hY_0cc := blk_ext hY_0c hw_0cc (by omega)
    have hE_0cc := hE_0c.trans hw_0cc
    refine wpAnyH_take (i := 6) (oi := _) (v := ?_) rfl (by kernel_rfl) (by kernel_rfl) (by kernel_rfl) (fun _ _ _ h => h) (Or.inl ⟨by rfl, ?_⟩) (by assumption) ?_
    (rotate_left); (focus (intro wv hSw; (have qC := hSw);  go_simp; (try with_reducible rfl)))
    try simp only [Act.put, List.getElem_toArray, List.getElem_cons_succ, List.getElem_cons_zero, List.setIfInBounds_toArray, List.set_cons_zero, List.set_cons_succ]
    refine wpAnyH_ready (rs := [8]) (by kernel_rfl) (by simp) ?_
    refine AllReadyH.cons (o := _) rfl (fun K hK => ?_) AllReadyH.nil
    go_simp
    (go_at_call 49; refine (pick_any B (0 + 1 + 1 + 1 + 1 + 1 + 1) 8 _ hR_0cc (by omega) (by omega) (by omega)).mono ?_; rintro e x0ccc ⟨k7, rfl, k70, k71, hR_0ccc, hw_0ccc⟩)
    refine hK.out _ _ (blk_ext hC_0cc hw_0ccc (by omega)) (fun hHeld => ?_)
    clear hK K
    try simp only [Act.put, List.getElem_toArray, List.getElem_cons_succ, List.getElem_cons_zero, List.setIfInBounds_toArray, List.set_cons_zero, List.set_cons_succ]
    have hC_0ccc := id hHeld
    have hX_0ccc := blk_ext hX_0cc hw_0ccc (by omega)
    have hY_0ccc := blk_ext hY_0cc hw_0ccc (by omega)
    have hE_0ccc := hE_0cc.trans hw_0ccc
    refine wpAnyH_take (i := 9) (oi := _) (v := ?_) rfl (by kernel_rfl) (by kernel_rfl) (by kernel_rfl) (fun _ _ _ h => h) (Or.inl ⟨by rfl, ?_⟩) (by assumption) ?_
    (rotate_left); (focus (intro wv hSw; (have qC := hSw);  go_simp; (try with_reducible rfl)))
    try simp only [Act.put, List.getElem_toArray, List.getElem_cons_succ, List.getElem_cons_zero, List.setIfInBounds_toArray, List.set_cons_zero, List.set_cons_succ]
    obtain ⟨_, _, _, _, _, _, _⟩ := blk3 hX_0ccc
    have tC0 := blk_setOther (i := 0) hC_0ccc n_CX (.int .i64 (k1 - 15))
    have tC1 := blk_setOther (i := 1) tC0 n_CX (.int .i64 (k2 - 15))
    have tC2 := blk_setOther (i := 2) tC1 n_CX (.int .i64 k3)
    have hB_0ccc := hB1.trans (hE_0ccc.below (N := w.heap.size) (by omega) (by omega))
    refine wpAnyH_ready (rs := [10]) (by kernel_rfl) (by simp) ?_
    refine AllReadyH.cons (o := _) rfl (fun K hK => ?_) AllReadyH.nil
    go_simp
    refine hK.out _ _ (tC2) (fun hHeld => ?_)
    clear hK K
    try simp only [Act.put, List.getElem_toArray, List.getElem_cons_succ, List.getElem_cons_zero, List.setIfInBounds_toArray, List.set_cons_zero, List.set_cons_succ]
    have hC_0cccw := id hHeld
    have u0 := blk3_at0 (v := .int .i64 (k1 - 15)) hX_0ccc
    have v0 := blk_setOther (i := 0) hY_0ccc n_YX (.int .i64 (k1 - 15))
    have b0 := below_alls hB_0ccc e_X 0 (.int .i64 (k1 - 15))
    have u1 := blk3_at1 (v := .int .i64 (k2 - 15)) u0
    have v1 := blk_setOther (i := 1) v0 n_YX (.int .i64 (k2 - 15))
    have b1 := below_alls b0 e_X 1 (.int .i64 (k2 - 15))
    have hX_0cccw := blk3_at2 (v := .int .i64 k3) u1
    have hY_0cccw := blk_setOther (i := 2) v1 n_YX (.int .i64 k3)
    have hB_0cccw := below_alls b1 e_X 2 (.int .i64 k3)
    clear tC0 tC1 tC2 u0 u1 v0 v1 b0 b1
    obtain ⟨_, _, _, _, _, _, _⟩ := blk3 hY_0cccw
    have tC0 := blk_setOther (i := 0) hC_0cccw n_CY (.int .i64 (IntKind.i64.wrap (k5 - 15)))
    have tC1 := blk_setOther (i := 1) tC0 n_CY (.int .i64 (IntKind.i64.wrap (k6 - 15)))
    have tC2 := blk_setOther (i := 2) tC1 n_CY (.int .i64 k7)
    refine wpAnyH_ready (rs := [11]) (by kernel_rfl) (by simp) ?_
    refine AllReadyH.cons (o := _) rfl (fun K hK => ?_) AllReadyH.nil
    go_simp
    refine hK.out _ _ (tC2) (fun hHeld => ?_)
    clear hK K
    try simp only [Act.put, List.getElem_toArray, List.getElem_cons_succ, List.getElem_cons_zero, List.setIfInBounds_toArray, List.set_cons_zero, List.set_cons_succ]
    have hC_0cccww := id hHeld
    have u0 := blk3_at0 (v := .int .i64 (IntKind.i64.wrap (k5 - 15))) hY_0cccw
    have v0 := blk_setOther (i := 0) hX_0cccw n_XY (.int .i64 (IntKind.i64.wrap (k5 - 15)))
    have b0 := below_alls hB_0cccw e_Y 0 (.int .i64 (IntKind.i64.wrap (k5 - 15)))
    have u1 := blk3_at1 (v := .int .i64 (IntKind.i64.wrap (k6 - 15))) u0
    have v1 := blk_setOther (i := 1) v0 n_XY (.int .i64 (IntKind.i64.wrap (k6 - 15)))
    have b1 := below_alls b0 e_Y 1 (.int .i64 (IntKind.i64.wrap (k6 - 15)))
    have hY_0cccww := blk3_at2 (v := .int .i64 k7) u1
    have hX_0cccww := blk_setOther (i := 2) v1 n_XY (.int .i64 k7)
    have hB_0cccww := below_alls b1 e_Y 2 (.int .i64 k7)
    clear tC0 tC1 tC2 u0 u1 v0 v1 b0 b1
    refine wpAnyH_done (by kernel_rfl) ?_ _
    have ew5 : IntKind.i64.wrap (k5 - 15) = k5 - 15 := IntWalk.i64_in _ (by omega)
    have ew6 : IntKind.i64.wrap (k6 - 15) = k6 - 15 := IntWalk.i64_in _ (by omega)
    rw [ew5, ew6] at hX_0cccww hY_0cccww hB_0cccww ⊢
    obtain ⟨x0_, x1_, x2_, _, _, _, _⟩ := blk3 hX_0cccww
    obtain ⟨y0_, y1_, y2_, _, _, _, _⟩ := blk3 hY_0cccww
    go_wp2_with fail
    exact bodyPost_ret (v := .tuple #[.agg #[.int .i64 (k1 - 15), .int .i64 (k2 - 15), .int .i64 k3], .agg #[.int .i64 (k5 - 15), .int .i64 (k6 - 15), .int .i64 k7]]) (by simp [results, Try.results26, go_sem, x0_, x1_, x2_, y0_, y1_, y2_]) rfl ⟨_, _, _, _, _, _, rfl, ⟨by omega, by omega⟩, ⟨by omega, by omega⟩, ⟨by omega, by omega⟩, ⟨by omega, by omega⟩, ⟨by omega, by omega⟩, ⟨by omega, by omega⟩, hB_0cccww⟩
end Go.Proofs.Ytlahjgjjebkpjaa
