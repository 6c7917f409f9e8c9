/- A place, a block and a direction that are drawn together. -/
import Derived.Test.YtlahjgjjebkpjabDb
import Derived.RegionTactic
namespace Go.Proofs.Ytlahjgjjebkpjab
open Go Go.ChangeShapes Go.WideShapes Go.ChangeAt Go.RowKit
set_option linter.unusedSimpArgs false
set_option linter.unusedVariables false

def ShadedIs (B : Nat) (u : Int) (w : World) (e : Ending) (w' : World) : Prop :=
  ∃ p0 p1 b0 b1 b2 b3 b4 r0 r1 r2 : Int, e = .returned (.tuple #[.agg #[.int .i64 p0, .int .i64 p1], .agg #[.int .i64 b0, .int .i64 b1, .int .i64 b2, .int .i64 b3, .int .i64 b4], .agg #[.int .i64 r0, .int .i64 r1, .int .i64 r2]]) ∧ (-200 ≤ p0 ∧ p0 ≤ 200) ∧ (-200 ≤ p1 ∧ p1 ≤ 200) ∧ (-200 ≤ b0 ∧ b0 ≤ 200) ∧ (-200 ≤ b1 ∧ b1 ≤ 200) ∧ (-200 ≤ b2 ∧ b2 ≤ 200) ∧ (-200 ≤ b3 ∧ b3 ≤ 200) ∧ (-200 ≤ b4 ∧ b4 ≤ 200) ∧ (-200 ≤ r0 ∧ r0 ≤ 200) ∧ (-200 ≤ r1 ∧ r1 ≤ 200) ∧ (-200 ≤ r2 ∧ r2 ≤ 200) ∧ RdU B u w' ∧ Ext B w w'
set_option maxRecDepth 100000 in
set_option maxHeartbeats 16000000 in
theorem shaded_any (B : Nat) (u n : Int) (w : World) (h : RdU B u w) (hu0 : u ≤ 700000) (hn : 0 ≤ n) (hn1 : n ≤ 1000000) : Calls Try.prog 46 #[.pointer (some ⟨B, 0, none⟩), .int .i64 n] w (ShadedIs B (u + 23) w) := by
  have hBw := h.lt
  go_enter Try.func46, Try.ntmps46
  go_wp2_with fail
  refine (place_any B u n _ (((h.alloc _).alloc _).alloc _) (by omega) hn hn1).mono ?_; rintro e w1 ⟨p0, p1, rfl, ⟨p0_0, p0_1⟩, ⟨p1_0, p1_1⟩, h1, hx1⟩
  have hX1 := blk_ext (blk_old (blk_old (blk_new w (.cells #[.int .i64 0, .int .i64 0] 24 (0, 0))) (.cells #[.int .i64 0, .int .i64 0, .int .i64 0, .int .i64 0, .int .i64 0] 26 (0, 0))) (.cells #[.int .i64 0, .int .i64 0, .int .i64 0] 28 (0, 0))) hx1 (by omega)
  have hY1 := blk_ext (blk_old (new2 w (.cells #[.int .i64 0, .int .i64 0] 24 (0, 0)) (.cells #[.int .i64 0, .int .i64 0, .int .i64 0, .int .i64 0, .int .i64 0] 26 (0, 0))) (.cells #[.int .i64 0, .int .i64 0, .int .i64 0] 28 (0, 0))) hx1 (by omega)
  have hZ1 := blk_ext (new3 w (.cells #[.int .i64 0, .int .i64 0] 24 (0, 0)) (.cells #[.int .i64 0, .int .i64 0, .int .i64 0, .int .i64 0, .int .i64 0] 26 (0, 0)) (.cells #[.int .i64 0, .int .i64 0, .int .i64 0] 28 (0, 0))) hx1 (by omega)
  have hE1 : Ext B w w1 := ((((Ext.refl B w).alloc _).alloc _).alloc _).trans hx1
  have hz1 := blk_lt hZ1
  have hs1 := hE1.size
  clear hx1
  go_wp2_with fail
  refine (block_any B (u + 4) n _ (h1.alloc _) (by omega) hn hn1).mono ?_; rintro e w2 ⟨b0, b1, b2, b3, b4, rfl, ⟨b0_0, b0_1⟩, ⟨b1_0, b1_1⟩, ⟨b2_0, b2_1⟩, ⟨b3_0, b3_1⟩, ⟨b4_0, b4_1⟩, h2, hx2⟩
  have hK2 := blk_ext (blk_new w1 (.cells #[.int .i64 p0, .int .i64 p1] 24 (0, 0))) hx2 (by omega)
  have hX2 := blk_ext (blk_old hX1 (.cells #[.int .i64 p0, .int .i64 p1] 24 (0, 0))) hx2 (by omega)
  have hY2 := blk_ext (blk_old hY1 (.cells #[.int .i64 p0, .int .i64 p1] 24 (0, 0))) hx2 (by omega)
  have hZ2 := blk_ext (blk_old hZ1 (.cells #[.int .i64 p0, .int .i64 p1] 24 (0, 0))) hx2 (by omega)
  have hE2 := (hE1.alloc (.cells #[.int .i64 p0, .int .i64 p1] 24 (0, 0))).trans hx2
  have hz2 := blk_lt hK2
  clear hx2 h1 hX1 hY1 hZ1 hE1
  go_wp2_with fail
  refine (ray_any B (u + 4 + 8) n _ (h2.alloc _) (by omega) hn hn1).mono ?_; rintro e w3 ⟨r0, r1, r2, rfl, ⟨r0_0, r0_1⟩, ⟨r1_0, r1_1⟩, ⟨r2_0, r2_1⟩, h3, hx3⟩
  have hL3 := blk_ext (blk_new w2 (.cells #[.int .i64 b0, .int .i64 b1, .int .i64 b2, .int .i64 b3, .int .i64 b4] 26 (0, 0))) hx3 (by omega)
  have hX3 := blk_ext (blk_old hX2 (.cells #[.int .i64 b0, .int .i64 b1, .int .i64 b2, .int .i64 b3, .int .i64 b4] 26 (0, 0))) hx3 (by omega)
  have hY3 := blk_ext (blk_old hY2 (.cells #[.int .i64 b0, .int .i64 b1, .int .i64 b2, .int .i64 b3, .int .i64 b4] 26 (0, 0))) hx3 (by omega)
  have hZ3 := blk_ext (blk_old hZ2 (.cells #[.int .i64 b0, .int .i64 b1, .int .i64 b2, .int .i64 b3, .int .i64 b4] 26 (0, 0))) hx3 (by omega)
  have hK3 := blk_ext (blk_old hK2 (.cells #[.int .i64 b0, .int .i64 b1, .int .i64 b2, .int .i64 b3, .int .i64 b4] 26 (0, 0))) hx3 (by omega)
  have hE3 := (hE2.alloc (.cells #[.int .i64 b0, .int .i64 b1, .int .i64 b2, .int .i64 b3, .int .i64 b4] 26 (0, 0))).trans hx3
  have hz3 := blk_lt hL3
  clear hx3 h2 hX2 hY2 hZ2 hK2 hE2
  go_wp2_with fail
  refine (pick_any B (u + 4 + 8 + 7) 3 _ (h3.alloc _) (by omega) (by omega) (by omega)).mono ?_; rintro e w4 ⟨k, rfl, k0, k1, h4, hx4⟩
  have hM := blk_ext (blk_new w3 (.cells #[.int .i64 r0, .int .i64 r1, .int .i64 r2] 28 (0, 0))) hx4 (by omega)
  have hX := blk_ext (blk_old hX3 (.cells #[.int .i64 r0, .int .i64 r1, .int .i64 r2] 28 (0, 0))) hx4 (by omega)
  have hY := blk_ext (blk_old hY3 (.cells #[.int .i64 r0, .int .i64 r1, .int .i64 r2] 28 (0, 0))) hx4 (by omega)
  have hZ := blk_ext (blk_old hZ3 (.cells #[.int .i64 r0, .int .i64 r1, .int .i64 r2] 28 (0, 0))) hx4 (by omega)
  have hK := blk_ext (blk_old hK3 (.cells #[.int .i64 r0, .int .i64 r1, .int .i64 r2] 28 (0, 0))) hx4 (by omega)
  have hL := blk_ext (blk_old hL3 (.cells #[.int .i64 r0, .int .i64 r1, .int .i64 r2] 28 (0, 0))) hx4 (by omega)
  have hE := (hE3.alloc (.cells #[.int .i64 r0, .int .i64 r1, .int .i64 r2] 28 (0, 0))).trans hx4
  have hz4 := blk_lt hM
  clear hx4 h3 hX3 hY3 hZ3 hK3 hL3 hE3
  generalize w1.heap.size = C1 at *
  generalize w2.heap.size = C2 at *
  generalize w3.heap.size = C3 at *
  have n_KL : C1 ≠ C2 := by omega
  have n_KM : C1 ≠ C3 := by omega
  have n_KX : C1 ≠ w.heap.size := by omega
  have n_KY : C1 ≠ w.heap.size + 1 := by omega
  have n_KZ : C1 ≠ w.heap.size + 1 + 1 := by omega
  have n_LK : C2 ≠ C1 := by omega
  have n_LM : C2 ≠ C3 := by omega
  have n_LX : C2 ≠ w.heap.size := by omega
  have n_LY : C2 ≠ w.heap.size + 1 := by omega
  have n_LZ : C2 ≠ w.heap.size + 1 + 1 := by omega
  have n_MK : C3 ≠ C1 := by omega
  have n_ML : C3 ≠ C2 := by omega
  have n_MX : C3 ≠ w.heap.size := by omega
  have n_MY : C3 ≠ w.heap.size + 1 := by omega
  have n_MZ : C3 ≠ w.heap.size + 1 + 1 := by omega
  have n_XK : w.heap.size ≠ C1 := by omega
  have n_XL : w.heap.size ≠ C2 := by omega
  have n_XM : w.heap.size ≠ C3 := by omega
  have n_XY : w.heap.size ≠ w.heap.size + 1 := by omega
  have n_XZ : w.heap.size ≠ w.heap.size + 1 + 1 := by omega
  have n_YK : w.heap.size + 1 ≠ C1 := by omega
  have n_YL : w.heap.size + 1 ≠ C2 := by omega
  have n_YM : w.heap.size + 1 ≠ C3 := by omega
  have n_YX : w.heap.size + 1 ≠ w.heap.size := by omega
  have n_YZ : w.heap.size + 1 ≠ w.heap.size + 1 + 1 := by omega
  have n_ZK : w.heap.size + 1 + 1 ≠ C1 := by omega
  have n_ZL : w.heap.size + 1 + 1 ≠ C2 := by omega
  have n_ZM : w.heap.size + 1 + 1 ≠ C3 := by omega
  have n_ZX : w.heap.size + 1 + 1 ≠ w.heap.size := by omega
  have n_ZY : w.heap.size + 1 + 1 ≠ w.heap.size + 1 := by omega
  have l_K : B < C1 := by omega
  have l_L : B < C2 := by omega
  have l_M : B < C3 := by omega
  have l_X : B < w.heap.size := by omega
  have l_Y : B < w.heap.size + 1 := by omega
  have l_Z : B < w.heap.size + 1 + 1 := by omega
  have e_K : w.heap.size ≤ C1 := by omega
  have e_L : w.heap.size ≤ C2 := by omega
  have e_M : w.heap.size ≤ C3 := by omega
  have e_X : w.heap.size ≤ w.heap.size := by omega
  have e_Y : w.heap.size ≤ w.heap.size + 1 := by omega
  have e_Z : w.heap.size ≤ w.heap.size + 1 + 1 := by omega
  obtain ⟨m0, m1, m2, mf0, mf1, mf2, mz⟩ := blk3 hM
  by_cases c : k = 0
  · subst c
    have hK := blk_setOther (i := 0) hK n_KM (.int .i64 0)
    have hL := blk_setOther (i := 0) hL n_LM (.int .i64 0)
    have hM := blk3_at0 (v := .int .i64 0) hM
    have hX := blk_setOther (i := 0) hX n_XM (.int .i64 0)
    have hY := blk_setOther (i := 0) hY n_YM (.int .i64 0)
    have hZ := blk_setOther (i := 0) hZ n_ZM (.int .i64 0)
    have h4 := h4.setOther l_M (i := 0) (.int .i64 0)
    have hE := hE.setNew e_M 0 (.int .i64 0)
    go_wp2_with fail
    clear m0 m1 m2 mf0 mf1 mf2 mz
    have hK_0 := blk_drw hK
    have hL_0 := blk_drw hL
    have hM_0 := blk_drw hM
    have hX_0 := blk_drw hX
    have hY_0 := blk_drw hY
    have hZ_0 := blk_drw hZ
    have hR_0 := h4.drw
    have hE_0 := hE.drw
    clear hK hL hM hX hY hZ h4 hE
    refine wp_region_held_drew (S := (fun w' => w'.heap[C2]? = some (.cells #[.int .i64 b0, .int .i64 b1, .int .i64 b2, .int .i64 b3, .int .i64 b4] 26 (0, 0)))) (by kernel_rfl) (hL_0) (fun hHeld => ?_)
    have hL_0 := id hHeld
    refine wpAnyH_take (i := 0) (oi := _) (v := ?_) rfl (by kernel_rfl) (by kernel_rfl) (by kernel_rfl) (fun _ _ _ h => h) (Or.inl ⟨by rfl, ?_⟩) (by assumption) ?_
    (rotate_left); (focus (intro wv hSw; (have qL := hSw);  go_simp; (try with_reducible rfl)))
    try simp only [Act.put, List.getElem_toArray, List.getElem_cons_succ, List.getElem_cons_zero, List.setIfInBounds_toArray, List.set_cons_zero, List.set_cons_succ]
    refine wpAnyH_take (i := 1) (oi := _) (v := ?_) rfl (by kernel_rfl) (by kernel_rfl) (by kernel_rfl) (fun _ _ _ h => h) (Or.inl ⟨by rfl, ?_⟩) (by assumption) ?_
    (rotate_left); (focus (intro wv hSw; (have qL := hSw); obtain ⟨_, _, _, _, _, _, _, _, _, _, _⟩ := blk5 qL; go_simp; (try with_reducible rfl)))
    try simp only [Act.put, List.getElem_toArray, List.getElem_cons_succ, List.getElem_cons_zero, List.setIfInBounds_toArray, List.set_cons_zero, List.set_cons_succ]
    refine wpAnyH_take (i := 2) (oi := _) (v := ?_) rfl (by kernel_rfl) (by kernel_rfl) (by kernel_rfl) (fun _ _ _ h => h) (Or.inl ⟨by rfl, ?_⟩) (by assumption) ?_
    (rotate_left); (focus (intro wv hSw; (have qL := hSw);  go_simp; (try with_reducible rfl)))
    try simp only [Act.put, List.getElem_toArray, List.getElem_cons_succ, List.getElem_cons_zero, List.setIfInBounds_toArray, List.set_cons_zero, List.set_cons_succ]
    refine wpAnyH_ready (rs := [3]) (by kernel_rfl) (by simp) ?_
    refine AllReadyH.cons (o := _) rfl (fun K hK => ?_) AllReadyH.nil
    go_simp
    (go_at_call 66; refine (pick_any B (u + 4 + 8 + 7 + 1) 6 _ hR_0 (by omega) (by omega) (by omega)).mono ?_; rintro e x0c ⟨k5, rfl, k50, k51, hR_0c, hw_0c⟩)
    refine hK.out _ _ (blk_ext hL_0 hw_0c (by omega)) (fun hHeld => ?_)
    clear hK K
    try simp only [Act.put, List.getElem_toArray, List.getElem_cons_succ, List.getElem_cons_zero, List.setIfInBounds_toArray, List.set_cons_zero, List.set_cons_succ]
    have hL_0c := id hHeld
    have hK_0c := blk_ext hK_0 hw_0c (Nat.ne_of_gt l_K)
    have hM_0c := blk_ext hM_0 hw_0c (Nat.ne_of_gt l_M)
    have hX_0c := blk_ext hX_0 hw_0c (Nat.ne_of_gt l_X)
    have hY_0c := blk_ext hY_0 hw_0c (Nat.ne_of_gt l_Y)
    have hZ_0c := blk_ext hZ_0 hw_0c (Nat.ne_of_gt l_Z)
    have hE_0c := hE_0.trans hw_0c
    refine wpAnyH_take (i := 4) (oi := _) (v := ?_) rfl (by kernel_rfl) (by kernel_rfl) (by kernel_rfl) (fun _ _ _ h => h) (Or.inl ⟨by rfl, ?_⟩) (by assumption) ?_
    (rotate_left); (focus (intro wv hSw; (have qL := hSw);  go_simp; (try with_reducible rfl)))
    try simp only [Act.put, List.getElem_toArray, List.getElem_cons_succ, List.getElem_cons_zero, List.setIfInBounds_toArray, List.set_cons_zero, List.set_cons_succ]
    refine wpAnyH_take (i := 5) (oi := _) (v := ?_) rfl (by kernel_rfl) (by kernel_rfl) (by kernel_rfl) (fun _ _ _ h => h) (Or.inl ⟨by rfl, ?_⟩) (by assumption) ?_
    (rotate_left); (focus (intro wv hSw; (have qL := hSw);  go_simp; (try with_reducible rfl)))
    try simp only [Act.put, List.getElem_toArray, List.getElem_cons_succ, List.getElem_cons_zero, List.setIfInBounds_toArray, List.set_cons_zero, List.set_cons_succ]
    refine wpAnyH_take (i := 6) (oi := _) (v := ?_) rfl (by kernel_rfl) (by kernel_rfl) (by kernel_rfl) (fun _ _ _ h => h) (Or.inl ⟨by rfl, ?_⟩) (by assumption) ?_
    (rotate_left); (focus (intro wv hSw; (have qL := hSw);  go_simp; (try with_reducible rfl)))
    try simp only [Act.put, List.getElem_toArray, List.getElem_cons_succ, List.getElem_cons_zero, List.setIfInBounds_toArray, List.set_cons_zero, List.set_cons_succ]
    obtain ⟨_, _, _, _, _⟩ := blk2 hK_0c
    refine wpAnyH_ready (rs := [7]) (by kernel_rfl) (by simp) ?_
    refine AllReadyH.cons (o := _) rfl (fun K hK => ?_) AllReadyH.nil
    go_simp
    refine hK.out _ _ (blk_setOther (i := 0) hL_0c n_LK (.int .i64 (IntKind.i64.wrap (IntKind.i64.wrap (b0 + k5) - 1)))) (fun hHeld => ?_)
    clear hK K
    try simp only [Act.put, List.getElem_toArray, List.getElem_cons_succ, List.getElem_cons_zero, List.setIfInBounds_toArray, List.set_cons_zero, List.set_cons_succ]
    have hL_0cw := id hHeld
    have hK_0cw := blk2_at0 (v := .int .i64 (IntKind.i64.wrap (IntKind.i64.wrap (b0 + k5) - 1))) hK_0c
    have hM_0cw := blk_setOther (i := 0) hM_0c n_MK (.int .i64 (IntKind.i64.wrap (IntKind.i64.wrap (b0 + k5) - 1)))
    have hX_0cw := blk_setOther (i := 0) hX_0c n_XK (.int .i64 (IntKind.i64.wrap (IntKind.i64.wrap (b0 + k5) - 1)))
    have hY_0cw := blk_setOther (i := 0) hY_0c n_YK (.int .i64 (IntKind.i64.wrap (IntKind.i64.wrap (b0 + k5) - 1)))
    have hZ_0cw := blk_setOther (i := 0) hZ_0c n_ZK (.int .i64 (IntKind.i64.wrap (IntKind.i64.wrap (b0 + k5) - 1)))
    have hR_0cw := hR_0c.setOther l_K (i := 0) (.int .i64 (IntKind.i64.wrap (IntKind.i64.wrap (b0 + k5) - 1)))
    have hE_0cw := hE_0c.setNew e_K 0 (.int .i64 (IntKind.i64.wrap (IntKind.i64.wrap (b0 + k5) - 1)))
    refine wpAnyH_done (by kernel_rfl) ?_ _
    clear hK_0 hK_0c hL_0 hL_0c hM_0 hM_0c hX_0 hX_0c hY_0 hY_0c hZ_0 hZ_0c hR_0 hR_0c hE_0 hE_0c hHeld
    have ew : (IntKind.i64.wrap (IntKind.i64.wrap (b0 + k5) - 1)) = (b0 + k5 - 1) := by rw [IntWalk.i64_in (b0 + k5) (by omega)]; exact IntWalk.i64_in _ (by omega)
    rw [ew] at hK_0cw hL_0cw hM_0cw hX_0cw hY_0cw hZ_0cw hR_0cw hE_0cw ⊢
    clear ew
    have hK := hK_0cw
    have hL := hL_0cw
    have hM := hM_0cw
    have hX := hX_0cw
    have hY := hY_0cw
    have hZ := hZ_0cw
    have h4 := hR_0cw
    have hE := hE_0cw
    clear hK_0cw hL_0cw hM_0cw hX_0cw hY_0cw hZ_0cw hR_0cw hE_0cw
    go_wp2_with fail
    have hK_0 := blk_drw hK
    have hL_0 := blk_drw hL
    have hM_0 := blk_drw hM
    have hX_0 := blk_drw hX
    have hY_0 := blk_drw hY
    have hZ_0 := blk_drw hZ
    have hR_0 := h4.drw
    have hE_0 := hE.drw
    clear hK hL hM hX hY hZ h4 hE
    refine wp_region_held_drew (S := (fun w' => w'.heap[C2]? = some (.cells #[.int .i64 b0, .int .i64 b1, .int .i64 b2, .int .i64 b3, .int .i64 b4] 26 (0, 0)))) (by kernel_rfl) (hL_0) (fun hHeld => ?_)
    have hL_0 := id hHeld
    refine wpAnyH_take (i := 0) (oi := _) (v := ?_) rfl (by kernel_rfl) (by kernel_rfl) (by kernel_rfl) (fun _ _ _ h => h) (Or.inl ⟨by rfl, ?_⟩) (by assumption) ?_
    (rotate_left); (focus (intro wv hSw; (have qL := hSw);  go_simp; (try with_reducible rfl)))
    try simp only [Act.put, List.getElem_toArray, List.getElem_cons_succ, List.getElem_cons_zero, List.setIfInBounds_toArray, List.set_cons_zero, List.set_cons_succ]
    refine wpAnyH_take (i := 1) (oi := _) (v := ?_) rfl (by kernel_rfl) (by kernel_rfl) (by kernel_rfl) (fun _ _ _ h => h) (Or.inl ⟨by rfl, ?_⟩) (by assumption) ?_
    (rotate_left); (focus (intro wv hSw; (have qL := hSw); obtain ⟨_, _, _, _, _, _, _, _, _, _, _⟩ := blk5 qL; go_simp; (try with_reducible rfl)))
    try simp only [Act.put, List.getElem_toArray, List.getElem_cons_succ, List.getElem_cons_zero, List.setIfInBounds_toArray, List.set_cons_zero, List.set_cons_succ]
    refine wpAnyH_take (i := 2) (oi := _) (v := ?_) rfl (by kernel_rfl) (by kernel_rfl) (by kernel_rfl) (fun _ _ _ h => h) (Or.inl ⟨by rfl, ?_⟩) (by assumption) ?_
    (rotate_left); (focus (intro wv hSw; (have qL := hSw);  go_simp; (try with_reducible rfl)))
    try simp only [Act.put, List.getElem_toArray, List.getElem_cons_succ, List.getElem_cons_zero, List.setIfInBounds_toArray, List.set_cons_zero, List.set_cons_succ]
    refine wpAnyH_ready (rs := [3]) (by kernel_rfl) (by simp) ?_
    refine AllReadyH.cons (o := _) rfl (fun K hK => ?_) AllReadyH.nil
    go_simp
    (go_at_call 66; refine (pick_any B (u + 4 + 8 + 7 + 1 + 1) 8 _ hR_0 (by omega) (by omega) (by omega)).mono ?_; rintro e x0c ⟨k6, rfl, k60, k61, hR_0c, hw_0c⟩)
    refine hK.out _ _ (blk_ext hL_0 hw_0c (by omega)) (fun hHeld => ?_)
    clear hK K
    try simp only [Act.put, List.getElem_toArray, List.getElem_cons_succ, List.getElem_cons_zero, List.setIfInBounds_toArray, List.set_cons_zero, List.set_cons_succ]
    have hL_0c := id hHeld
    have hK_0c := blk_ext hK_0 hw_0c (Nat.ne_of_gt l_K)
    have hM_0c := blk_ext hM_0 hw_0c (Nat.ne_of_gt l_M)
    have hX_0c := blk_ext hX_0 hw_0c (Nat.ne_of_gt l_X)
    have hY_0c := blk_ext hY_0 hw_0c (Nat.ne_of_gt l_Y)
    have hZ_0c := blk_ext hZ_0 hw_0c (Nat.ne_of_gt l_Z)
    have hE_0c := hE_0.trans hw_0c
    refine wpAnyH_take (i := 4) (oi := _) (v := ?_) rfl (by kernel_rfl) (by kernel_rfl) (by kernel_rfl) (fun _ _ _ h => h) (Or.inl ⟨by rfl, ?_⟩) (by assumption) ?_
    (rotate_left); (focus (intro wv hSw; (have qL := hSw);  go_simp; (try with_reducible rfl)))
    try simp only [Act.put, List.getElem_toArray, List.getElem_cons_succ, List.getElem_cons_zero, List.setIfInBounds_toArray, List.set_cons_zero, List.set_cons_succ]
    refine wpAnyH_take (i := 5) (oi := _) (v := ?_) rfl (by kernel_rfl) (by kernel_rfl) (by kernel_rfl) (fun _ _ _ h => h) (Or.inl ⟨by rfl, ?_⟩) (by assumption) ?_
    (rotate_left); (focus (intro wv hSw; (have qL := hSw);  go_simp; (try with_reducible rfl)))
    try simp only [Act.put, List.getElem_toArray, List.getElem_cons_succ, List.getElem_cons_zero, List.setIfInBounds_toArray, List.set_cons_zero, List.set_cons_succ]
    obtain ⟨_, _, _, _, _⟩ := blk2 hK_0c
    refine wpAnyH_ready (rs := [6]) (by kernel_rfl) (by simp) ?_
    refine AllReadyH.cons (o := _) rfl (fun K hK => ?_) AllReadyH.nil
    go_simp
    refine hK.out _ _ (blk_setOther (i := 1) hL_0c n_LK (.int .i64 (IntKind.i64.wrap (b2 - k6)))) (fun hHeld => ?_)
    clear hK K
    try simp only [Act.put, List.getElem_toArray, List.getElem_cons_succ, List.getElem_cons_zero, List.setIfInBounds_toArray, List.set_cons_zero, List.set_cons_succ]
    have hL_0cw := id hHeld
    have hK_0cw := blk2_at1 (v := .int .i64 (IntKind.i64.wrap (b2 - k6))) hK_0c
    have hM_0cw := blk_setOther (i := 1) hM_0c n_MK (.int .i64 (IntKind.i64.wrap (b2 - k6)))
    have hX_0cw := blk_setOther (i := 1) hX_0c n_XK (.int .i64 (IntKind.i64.wrap (b2 - k6)))
    have hY_0cw := blk_setOther (i := 1) hY_0c n_YK (.int .i64 (IntKind.i64.wrap (b2 - k6)))
    have hZ_0cw := blk_setOther (i := 1) hZ_0c n_ZK (.int .i64 (IntKind.i64.wrap (b2 - k6)))
    have hR_0cw := hR_0c.setOther l_K (i := 1) (.int .i64 (IntKind.i64.wrap (b2 - k6)))
    have hE_0cw := hE_0c.setNew e_K 1 (.int .i64 (IntKind.i64.wrap (b2 - k6)))
    refine wpAnyH_done (by kernel_rfl) ?_ _
    clear hK_0 hK_0c hL_0 hL_0c hM_0 hM_0c hX_0 hX_0c hY_0 hY_0c hZ_0 hZ_0c hR_0 hR_0c hE_0 hE_0c hHeld
    have ew : (IntKind.i64.wrap (b2 - k6)) = (b2 - k6) := by exact IntWalk.i64_in _ (by omega)
    rw [ew] at hK_0cw hL_0cw hM_0cw hX_0cw hY_0cw hZ_0cw hR_0cw hE_0cw ⊢
    clear ew
    have hK := hK_0cw
    have hL := hL_0cw
    have hM := hM_0cw
    have hX := hX_0cw
    have hY := hY_0cw
    have hZ := hZ_0cw
    have h4 := hR_0cw
    have hE := hE_0cw
    clear hK_0cw hL_0cw hM_0cw hX_0cw hY_0cw hZ_0cw hR_0cw hE_0cw
    go_wp2_with fail
    refine (pick_any B (u + 4 + 8 + 7 + 1 + 1 + 1) 9 _ h4 (by omega) (by omega) (by omega)).mono ?_; rintro e w7 ⟨k7, rfl, k70, k71, h4, hx7⟩
    have hK := blk_ext hK hx7 (Nat.ne_of_gt l_K)
    have hL := blk_ext hL hx7 (Nat.ne_of_gt l_L)
    have hM := blk_ext hM hx7 (Nat.ne_of_gt l_M)
    have hX := blk_ext hX hx7 (Nat.ne_of_gt l_X)
    have hY := blk_ext hY hx7 (Nat.ne_of_gt l_Y)
    have hZ := blk_ext hZ hx7 (Nat.ne_of_gt l_Z)
    have hE := hE.trans hx7
    obtain ⟨m0, m1, m2, mf0, mf1, mf2, mz⟩ := blk3 hM
    have hK := blk_setOther (i := 1) hK n_KM (.int .i64 k7)
    have hL := blk_setOther (i := 1) hL n_LM (.int .i64 k7)
    have hM := blk3_at1 (v := .int .i64 k7) hM
    have hX := blk_setOther (i := 1) hX n_XM (.int .i64 k7)
    have hY := blk_setOther (i := 1) hY n_YM (.int .i64 k7)
    have hZ := blk_setOther (i := 1) hZ n_ZM (.int .i64 k7)
    have h4 := h4.setOther l_M (i := 1) (.int .i64 k7)
    have hE := hE.setNew e_M 1 (.int .i64 k7)
    go_wp2_with fail
    clear m0 m1 m2 mf0 mf1 mf2 mz
    obtain ⟨_, _, _, _, _⟩ := blk2 hK
    obtain ⟨_, _, _, _, _, _, _, _, _, _, _⟩ := blk5 hL
    obtain ⟨_, _, _, _, _, _, _⟩ := blk3 hM
    obtain ⟨_, _, zxa, zxb, zxc⟩ := blk2 hX
    obtain ⟨_, _, _, _, _, zya, zyb, zyc, zyd, zye, zyf⟩ := blk5 hY
    obtain ⟨_, _, _, zza, zzb, zzc, zzd⟩ := blk3 hZ
    go_wp2_with fail
    go_region
    have tX1 := blk2_at0 (v := .int .i64 (b0 + k5 - 1)) hX
    have tY1 := blk_setOther (i := 0) hY n_YX (.int .i64 (b0 + k5 - 1))
    have tZ1 := blk_setOther (i := 0) hZ n_ZX (.int .i64 (b0 + k5 - 1))
    have tR1 := h4.setOther l_X (i := 0) (.int .i64 (b0 + k5 - 1))
    have tE1 := hE.setNew e_X 0 (.int .i64 (b0 + k5 - 1))
    have tX2 := blk2_at1 (v := .int .i64 (b2 - k6)) tX1
    have tY2 := blk_setOther (i := 1) tY1 n_YX (.int .i64 (b2 - k6))
    have tZ2 := blk_setOther (i := 1) tZ1 n_ZX (.int .i64 (b2 - k6))
    have tR2 := tR1.setOther l_X (i := 1) (.int .i64 (b2 - k6))
    have tE2 := tE1.setNew e_X 1 (.int .i64 (b2 - k6))
    have tX3 := blk_setOther (i := 0) tX2 n_XY (.int .i64 b0)
    have tY3 := blk5_at0 (v := .int .i64 b0) tY2
    have tZ3 := blk_setOther (i := 0) tZ2 n_ZY (.int .i64 b0)
    have tR3 := tR2.setOther l_Y (i := 0) (.int .i64 b0)
    have tE3 := tE2.setNew e_Y 0 (.int .i64 b0)
    have tX4 := blk_setOther (i := 1) tX3 n_XY (.int .i64 b1)
    have tY4 := blk5_at1 (v := .int .i64 b1) tY3
    have tZ4 := blk_setOther (i := 1) tZ3 n_ZY (.int .i64 b1)
    have tR4 := tR3.setOther l_Y (i := 1) (.int .i64 b1)
    have tE4 := tE3.setNew e_Y 1 (.int .i64 b1)
    have tX5 := blk_setOther (i := 2) tX4 n_XY (.int .i64 b2)
    have tY5 := blk5_at2 (v := .int .i64 b2) tY4
    have tZ5 := blk_setOther (i := 2) tZ4 n_ZY (.int .i64 b2)
    have tR5 := tR4.setOther l_Y (i := 2) (.int .i64 b2)
    have tE5 := tE4.setNew e_Y 2 (.int .i64 b2)
    have tX6 := blk_setOther (i := 3) tX5 n_XY (.int .i64 b3)
    have tY6 := blk5_at3 (v := .int .i64 b3) tY5
    have tZ6 := blk_setOther (i := 3) tZ5 n_ZY (.int .i64 b3)
    have tR6 := tR5.setOther l_Y (i := 3) (.int .i64 b3)
    have tE6 := tE5.setNew e_Y 3 (.int .i64 b3)
    have tX7 := blk_setOther (i := 4) tX6 n_XY (.int .i64 b4)
    have tY7 := blk5_at4 (v := .int .i64 b4) tY6
    have tZ7 := blk_setOther (i := 4) tZ6 n_ZY (.int .i64 b4)
    have tR7 := tR6.setOther l_Y (i := 4) (.int .i64 b4)
    have tE7 := tE6.setNew e_Y 4 (.int .i64 b4)
    have tX8 := blk_setOther (i := 0) tX7 n_XZ (.int .i64 0)
    have tY8 := blk_setOther (i := 0) tY7 n_YZ (.int .i64 0)
    have tZ8 := blk3_at0 (v := .int .i64 0) tZ7
    have tR8 := tR7.setOther l_Z (i := 0) (.int .i64 0)
    have tE8 := tE7.setNew e_Z 0 (.int .i64 0)
    have tX9 := blk_setOther (i := 1) tX8 n_XZ (.int .i64 k7)
    have tY9 := blk_setOther (i := 1) tY8 n_YZ (.int .i64 k7)
    have tZ9 := blk3_at1 (v := .int .i64 k7) tZ8
    have tR9 := tR8.setOther l_Z (i := 1) (.int .i64 k7)
    have tE9 := tE8.setNew e_Z 1 (.int .i64 k7)
    have tX10 := blk_setOther (i := 2) tX9 n_XZ (.int .i64 r2)
    have tY10 := blk_setOther (i := 2) tY9 n_YZ (.int .i64 r2)
    have tZ10 := blk3_at2 (v := .int .i64 r2) tZ9
    have tR10 := tR9.setOther l_Z (i := 2) (.int .i64 r2)
    have tE10 := tE9.setNew e_Z 2 (.int .i64 r2)
    clear tX1 tX2 tX3 tX4 tX5 tX6 tX7 tX8 tX9 tY1 tY2 tY3 tY4 tY5 tY6 tY7 tY8 tY9 tZ1 tZ2 tZ3 tZ4 tZ5 tZ6 tZ7 tZ8 tZ9 tR1 tR2 tR3 tR4 tR5 tR6 tR7 tR8 tR9 tE1 tE2 tE3 tE4 tE5 tE6 tE7 tE8 tE9
    generalize (World.setCell (World.setCell (World.setCell (World.setCell (World.setCell (World.setCell (World.setCell (World.setCell (World.setCell (World.setCell (World.setCell w7 ⟨C3, 1, none⟩ (.int .i64 k7)) ⟨w.heap.size, 0, none⟩ (.int .i64 (b0 + k5 - 1))) ⟨w.heap.size, 1, none⟩ (.int .i64 (b2 - k6))) ⟨w.heap.size + 1, 0, none⟩ (.int .i64 b0)) ⟨w.heap.size + 1, 1, none⟩ (.int .i64 b1)) ⟨w.heap.size + 1, 2, none⟩ (.int .i64 b2)) ⟨w.heap.size + 1, 3, none⟩ (.int .i64 b3)) ⟨w.heap.size + 1, 4, none⟩ (.int .i64 b4)) ⟨w.heap.size + 1 + 1, 0, none⟩ (.int .i64 0)) ⟨w.heap.size + 1 + 1, 1, none⟩ (.int .i64 k7)) ⟨w.heap.size + 1 + 1, 2, none⟩ (.int .i64 r2)) = wq at tX10 tY10 tZ10 tR10 tE10 ⊢
    obtain ⟨x0, x1, _, _, _⟩ := blk2 (blk_drw tX10)
    obtain ⟨y0, y1, y2, y3, y4, _, _, _, _, _, _⟩ := blk5 (blk_drw tY10)
    obtain ⟨z0, z1, z2, _, _, _, _⟩ := blk3 (blk_drw tZ10)
    go_wp2_with fail
    exact bodyPost_ret (v := .tuple #[.agg #[.int .i64 (b0 + k5 - 1), .int .i64 (b2 - k6)], .agg #[.int .i64 b0, .int .i64 b1, .int .i64 b2, .int .i64 b3, .int .i64 b4], .agg #[.int .i64 0, .int .i64 k7, .int .i64 r2]]) (by simp [results, Try.results46, go_sem, x0, x1, y0, y1, y2, y3, y4, z0, z1, z2]) rfl ⟨_, _, _, _, _, _, _, _, _, _, rfl, ⟨by omega, by omega⟩, ⟨by omega, by omega⟩, ⟨by omega, by omega⟩, ⟨by omega, by omega⟩, ⟨by omega, by omega⟩, ⟨by omega, by omega⟩, ⟨by omega, by omega⟩, ⟨by omega, by omega⟩, ⟨by omega, by omega⟩, ⟨by omega, by omega⟩, (tR10.mono (by omega)).drw, tE10.drw⟩
  · have e0 : (k == 0) = false := by rw [beq_eq_false_iff_ne]; omega
    clear c m0 m1 m2 mf0 mf1 mf2 mz
    obtain ⟨_, _, _, _, _⟩ := blk2 hK
    obtain ⟨_, _, _, _, _, _, _, _, _, _, _⟩ := blk5 hL
    obtain ⟨_, _, _, _, _, _, _⟩ := blk3 hM
    obtain ⟨_, _, zxa, zxb, zxc⟩ := blk2 hX
    obtain ⟨_, _, _, _, _, zya, zyb, zyc, zyd, zye, zyf⟩ := blk5 hY
    obtain ⟨_, _, _, zza, zzb, zzc, zzd⟩ := blk3 hZ
    go_wp2_with fail
    go_region
    have tX1 := blk2_at0 (v := .int .i64 p0) hX
    have tY1 := blk_setOther (i := 0) hY n_YX (.int .i64 p0)
    have tZ1 := blk_setOther (i := 0) hZ n_ZX (.int .i64 p0)
    have tR1 := h4.setOther l_X (i := 0) (.int .i64 p0)
    have tE1 := hE.setNew e_X 0 (.int .i64 p0)
    have tX2 := blk2_at1 (v := .int .i64 p1) tX1
    have tY2 := blk_setOther (i := 1) tY1 n_YX (.int .i64 p1)
    have tZ2 := blk_setOther (i := 1) tZ1 n_ZX (.int .i64 p1)
    have tR2 := tR1.setOther l_X (i := 1) (.int .i64 p1)
    have tE2 := tE1.setNew e_X 1 (.int .i64 p1)
    have tX3 := blk_setOther (i := 0) tX2 n_XY (.int .i64 b0)
    have tY3 := blk5_at0 (v := .int .i64 b0) tY2
    have tZ3 := blk_setOther (i := 0) tZ2 n_ZY (.int .i64 b0)
    have tR3 := tR2.setOther l_Y (i := 0) (.int .i64 b0)
    have tE3 := tE2.setNew e_Y 0 (.int .i64 b0)
    have tX4 := blk_setOther (i := 1) tX3 n_XY (.int .i64 b1)
    have tY4 := blk5_at1 (v := .int .i64 b1) tY3
    have tZ4 := blk_setOther (i := 1) tZ3 n_ZY (.int .i64 b1)
    have tR4 := tR3.setOther l_Y (i := 1) (.int .i64 b1)
    have tE4 := tE3.setNew e_Y 1 (.int .i64 b1)
    have tX5 := blk_setOther (i := 2) tX4 n_XY (.int .i64 b2)
    have tY5 := blk5_at2 (v := .int .i64 b2) tY4
    have tZ5 := blk_setOther (i := 2) tZ4 n_ZY (.int .i64 b2)
    have tR5 := tR4.setOther l_Y (i := 2) (.int .i64 b2)
    have tE5 := tE4.setNew e_Y 2 (.int .i64 b2)
    have tX6 := blk_setOther (i := 3) tX5 n_XY (.int .i64 b3)
    have tY6 := blk5_at3 (v := .int .i64 b3) tY5
    have tZ6 := blk_setOther (i := 3) tZ5 n_ZY (.int .i64 b3)
    have tR6 := tR5.setOther l_Y (i := 3) (.int .i64 b3)
    have tE6 := tE5.setNew e_Y 3 (.int .i64 b3)
    have tX7 := blk_setOther (i := 4) tX6 n_XY (.int .i64 b4)
    have tY7 := blk5_at4 (v := .int .i64 b4) tY6
    have tZ7 := blk_setOther (i := 4) tZ6 n_ZY (.int .i64 b4)
    have tR7 := tR6.setOther l_Y (i := 4) (.int .i64 b4)
    have tE7 := tE6.setNew e_Y 4 (.int .i64 b4)
    have tX8 := blk_setOther (i := 0) tX7 n_XZ (.int .i64 r0)
    have tY8 := blk_setOther (i := 0) tY7 n_YZ (.int .i64 r0)
    have tZ8 := blk3_at0 (v := .int .i64 r0) tZ7
    have tR8 := tR7.setOther l_Z (i := 0) (.int .i64 r0)
    have tE8 := tE7.setNew e_Z 0 (.int .i64 r0)
    have tX9 := blk_setOther (i := 1) tX8 n_XZ (.int .i64 r1)
    have tY9 := blk_setOther (i := 1) tY8 n_YZ (.int .i64 r1)
    have tZ9 := blk3_at1 (v := .int .i64 r1) tZ8
    have tR9 := tR8.setOther l_Z (i := 1) (.int .i64 r1)
    have tE9 := tE8.setNew e_Z 1 (.int .i64 r1)
    have tX10 := blk_setOther (i := 2) tX9 n_XZ (.int .i64 r2)
    have tY10 := blk_setOther (i := 2) tY9 n_YZ (.int .i64 r2)
    have tZ10 := blk3_at2 (v := .int .i64 r2) tZ9
    have tR10 := tR9.setOther l_Z (i := 2) (.int .i64 r2)
    have tE10 := tE9.setNew e_Z 2 (.int .i64 r2)
    clear tX1 tX2 tX3 tX4 tX5 tX6 tX7 tX8 tX9 tY1 tY2 tY3 tY4 tY5 tY6 tY7 tY8 tY9 tZ1 tZ2 tZ3 tZ4 tZ5 tZ6 tZ7 tZ8 tZ9 tR1 tR2 tR3 tR4 tR5 tR6 tR7 tR8 tR9 tE1 tE2 tE3 tE4 tE5 tE6 tE7 tE8 tE9
    generalize (World.setCell (World.setCell (World.setCell (World.setCell (World.setCell (World.setCell (World.setCell (World.setCell (World.setCell (World.setCell w4 ⟨w.heap.size, 0, none⟩ (.int .i64 p0)) ⟨w.heap.size, 1, none⟩ (.int .i64 p1)) ⟨w.heap.size + 1, 0, none⟩ (.int .i64 b0)) ⟨w.heap.size + 1, 1, none⟩ (.int .i64 b1)) ⟨w.heap.size + 1, 2, none⟩ (.int .i64 b2)) ⟨w.heap.size + 1, 3, none⟩ (.int .i64 b3)) ⟨w.heap.size + 1, 4, none⟩ (.int .i64 b4)) ⟨w.heap.size + 1 + 1, 0, none⟩ (.int .i64 r0)) ⟨w.heap.size + 1 + 1, 1, none⟩ (.int .i64 r1)) ⟨w.heap.size + 1 + 1, 2, none⟩ (.int .i64 r2)) = wq at tX10 tY10 tZ10 tR10 tE10 ⊢
    obtain ⟨x0, x1, _, _, _⟩ := blk2 (blk_drw tX10)
    obtain ⟨y0, y1, y2, y3, y4, _, _, _, _, _, _⟩ := blk5 (blk_drw tY10)
    obtain ⟨z0, z1, z2, _, _, _, _⟩ := blk3 (blk_drw tZ10)
    go_wp2_with fail
    exact bodyPost_ret (v := .tuple #[.agg #[.int .i64 p0, .int .i64 p1], .agg #[.int .i64 b0, .int .i64 b1, .int .i64 b2, .int .i64 b3, .int .i64 b4], .agg #[.int .i64 r0, .int .i64 r1, .int .i64 r2]]) (by simp [results, Try.results46, go_sem, x0, x1, y0, y1, y2, y3, y4, z0, z1, z2]) rfl ⟨_, _, _, _, _, _, _, _, _, _, rfl, ⟨by omega, by omega⟩, ⟨by omega, by omega⟩, ⟨by omega, by omega⟩, ⟨by omega, by omega⟩, ⟨by omega, by omega⟩, ⟨by omega, by omega⟩, ⟨by omega, by omega⟩, ⟨by omega, by omega⟩, ⟨by omega, by omega⟩, ⟨by omega, by omega⟩, (tR10.mono (by omega)).drw, tE10.drw⟩
end Go.Proofs.Ytlahjgjjebkpjab
