/- Ways that are drawn out of a code. -/
import Derived.Test.YtbegajmdadkknabRdU
import Derived.Test.YtbegajmdadkknabHlp
import Derived.Test.YtbegajmdadkknabWay
namespace Go.Proofs.Ytbegajmdadkknab
open Go.ChangeShapes Go.WideShapes Go.ChangeAt Go.RowKit
set_option linter.unusedSimpArgs false
set_option linter.unusedVariables false

def Up (m x : Int) : Prop := -m ≤ x ∧ x ≤ m
def WayIs (B : Nat) (u m : Int) (w : World) (e : Ending) (w' : World) : Prop :=
  ∃ a b : Int, e = .returned (.agg #[.int .i64 a, .int .i64 b]) ∧ -m ≤ a ∧ a ≤ m ∧ -m ≤ b ∧ b ≤ m ∧ RdU B u w' ∧ Ext B w w'
/-- At block C lies a way with small numbers. -/
def WayAt (C : Nat) (m : Int) (w : World) : Prop := ∃ a b : Int, w.heap[C]? = some (.cells #[.int .i64 a, .int .i64 b] 24 (0, 0)) ∧ -m ≤ a ∧ a ≤ m ∧ -m ≤ b ∧ b ≤ m
set_option maxRecDepth 100000 in
set_option maxHeartbeats 8000000 in
theorem way_any (B : Nat) (u n : Int) (w : World) (h : RdU B u w) (hu : u ≤ 800000) (hn : 1 ≤ n) (hn1 : n ≤ 1000000) :
    Calls Try.prog 49 #[.pointer (some ⟨B, 0, none⟩), .int .i64 n] w (WayIs B (u + 8) 1001 w) := by
  have hBw := h.lt
  go_enter Try.func49, Try.ntmps49
  go_wp2_with fail
  refine (pick_any B u 12 _ (h.alloc _) (by omega) (by omega) (by omega)).mono ?_; rintro e w1 ⟨a1, rfl, a10, a11, h1, hx1⟩
  go_wp2_with fail
  refine (pick_any B (u + 1) _ _ h1 (by omega) (by omega) (by omega)).mono ?_; rintro e w2 ⟨a2, rfl, a20, a21, h2, hx2⟩
  go_wp2_with fail
  refine (pick_any B (u + 1 + 1) _ _ h2 (by omega) (by omega) (by omega)).mono ?_; rintro e w3 ⟨a3, rfl, a30, a31, h3, hx3⟩
  go_wp2_with fail
  have hB1 := h1.lt
  have hB3 := h3.lt
  refine (pick_any B (u + 1 + 1 + 1) 6 _ (h3.alloc _) (by omega) (by omega) (by omega)).mono ?_; rintro e w4 ⟨a4, rfl, a40, a41, h4, hx4⟩
  have hR3 := blk_ext (blk_ext (blk_ext (blk_new w _) hx1 (by omega)) hx2 (by omega)) hx3 (by omega)
  have hRC := blk_lt hR3
  have hR := blk_ext (blk_old hR3 _) hx4 (by omega)
  have hC := blk_ext (blk_new w3 _) hx4 (by omega)
  have hE : Ext B w w4 := (((((Ext.refl B w).alloc _).trans hx1).trans hx2).trans hx3 |>.alloc _).trans hx4
  clear hx1 hx2 hx3 hx4 hR3 h1 h2 h3 hB1
  generalize w3.heap.size = C at *
  go_upto_if 27 with fail
  go_cut [] (fun wx => WayAt C 12 wx ∧ wx.heap[w.heap.size]? = some (.cells #[.int .i64 0, .int .i64 0] 24 (0, 0)) ∧ RdU B (u + 5) wx ∧ Ext B w wx)
  case first =>
    obtain ⟨c0, c1, f0, f1, hz⟩ := blk2 hC
    by_cases k0 : a4 = 0
    · subst k0
      go_wp2_with fail
      go_meet
      exact ⟨⟨_, _, blk2_set0 hC, by omega, by omega, by omega, by omega⟩, blk_setOther hR (by omega) _, (h4.mono (by omega)).setOther (by omega) _, hE.setNew (by omega) _ _⟩
    · have e0 : (a4 == 0) = false := by rw [beq_eq_false_iff_ne]; omega
      clear k0
      go_wp2_with fail
      refine (pick_any B _ 6 _ h4 (by omega) (by omega) (by omega)).mono ?_; rintro e w5 ⟨a5, rfl, a50, a51, h5, hx5⟩
      have hC5 := blk_ext hC hx5 (by omega)
      have hR5 := blk_ext hR hx5 (by omega)
      have hE5 := hE.trans hx5
      obtain ⟨d0, d1, g0, g1, hz5⟩ := blk2 hC5
      by_cases k1 : a5 = 0
      · subst k1
        go_wp2_with fail
        go_meet
        exact ⟨⟨_, _, blk2_set1 hC5, by omega, by omega, by omega, by omega⟩, blk_setOther hR5 (by omega) _, (h5.mono (by omega)).setOther (by omega) _, hE5.setNew (by omega) _ _⟩
      · have e1 : (a5 == 0) = false := by rw [beq_eq_false_iff_ne]; omega
        clear k1
        go_wp2_with fail
        go_meet
        exact ⟨⟨_, _, hC5, by omega, by omega, by omega, by omega⟩, hR5, h5.mono (by omega), hE5⟩
  case rest =>
    clear hC hR hE h4
    obtain ⟨⟨p, q, hC, p0, p1, q0, q1⟩, hR, h5, hE⟩ := hcut
    go_wp2_with fail
    refine (odd_any B (u + 5) n _ h5 (by omega) hn hn1).mono ?_; rintro e w6 ⟨b, rfl, h6, hx6⟩
    have hC6 := blk_ext hC hx6 (by omega)
    have hR6 := blk_ext hR hx6 (by omega)
    have hE6 := hE.trans hx6
    clear hC hR hE h5 hx6
    go_upto_if 35 with fail
    go_cut [] (fun wx => WayAt C 1001 wx ∧ wx.heap[w.heap.size]? = some (.cells #[.int .i64 0, .int .i64 0] 24 (0, 0)) ∧ RdU B (u + 8) wx ∧ Ext B w wx)
    case first =>
      cases b
      · go_wp2_with fail
        go_meet
        exact ⟨⟨_, _, hC6, by omega, by omega, by omega, by omega⟩, hR6, h6.mono (by omega), hE6⟩
      · go_wp2_with fail
        have hz6 := h6.lt
        have hc6 := blk_lt hC6
        refine (pick_any B _ 2 _ (h6.alloc _) (by omega) (by omega) (by omega)).mono ?_; rintro e w7 ⟨b2, rfl, b20, b21, h7, hx7⟩
        have hC7 := blk_ext (blk_old hC6 _) hx7 (by omega)
        have hR7 := blk_ext (blk_old hR6 _) hx7 (by omega)
        obtain ⟨v, hv, v0, v1⟩ := blk_int_at [-1001, 1001] (blk_ext (blk_new w6 _) hx7 (by omega)) (-1001) 1001 (by decide) b2.toNat (by simp; omega)
        obtain ⟨c0, c1, f0, f1, hz⟩ := blk2 hC7
        have hE7 := (hE6.alloc _).trans hx7
        go_wp2_with fail
        go_meet
        exact ⟨⟨_, _, blk2_set0 hC7, by omega, by omega, by omega, by omega⟩, blk_setOther hR7 (by omega) _, (h7.mono (by omega)).setOther (by omega) _, hE7.setNew (by omega) _ _⟩
    case rest =>
      obtain ⟨⟨y, m, hC, y0, y1, m0, m1⟩, hR, h7, hE⟩ := hcut
      obtain ⟨c0, c1, f0, f1, hz⟩ := blk2 hC
      obtain ⟨q0, q1, p0, p1, hz⟩ := blk2 hR
      go_wp2_with fail
      exact bodyPost_ret (v := .agg #[.int .i64 y, .int .i64 m]) (by simp [results, Try.results49, go_sem, q0, q1]) rfl ⟨_, _, rfl, y0, y1, m0, m1, ((((h7.mono (by omega)).setOther (by omega) _).setOther (by omega) _)), (hE.setNew (by omega) _ _).setNew (by omega) _ _⟩
set_option maxHeartbeats 4000000 in
theorem other_any (B : Nat) (u a b : Int) (w : World) (h : RdU B u w) (hu : u ≤ 700000) (a0 : -1001 ≤ a) (a1 : a ≤ 1001) (b0 : -1001 ≤ b) (b1 : b ≤ 1001) :
    Calls Try.prog 50 #[.pointer (some ⟨B, 0, none⟩), .agg #[.int .i64 a, .int .i64 b]] w (WayIs B (u + 9) 3003 w) := by
  have hBw := h.lt
  go_enter Try.func50, Try.ntmps50
  go_wp2_with fail
  refine (pick_any B u 4 _ ((h.alloc _).alloc _) (by omega) (by omega) (by omega)).mono ?_; rintro e w1 ⟨k, rfl, k0, k1, h1, hx1⟩
  have hP := blk_ext (blk_old (blk_new w (.cells #[.int .i64 a, .int .i64 b] 24)) _) hx1 (by omega)
  have hR := blk_ext (new2 w (.cells #[.int .i64 a, .int .i64 b] 24) _) hx1 (by omega)
  have hE : Ext B w w1 := (((Ext.refl B w).alloc _).alloc _).trans hx1
  obtain ⟨c0, c1, f0, f1, hz⟩ := blk2 hP
  obtain ⟨d0, d1, g0, g1, hz'⟩ := blk2 hR
  by_cases e0 : k = 0
  · subst e0
    go_wp2_with fail
    exact bodyPost_ret (v := .agg #[.int .i64 (3 * a), .int .i64 (3 * b)]) (by simp [results, Try.results50, go_sem, d0, d1]) rfl ⟨_, _, rfl, by omega, by omega, by omega, by omega, ((h1.mono (by omega)).setOther (by omega) _).setOther (by omega) _, (hE.setNew (by omega) _ _).setNew (by omega) _ _⟩
  · have z0 : (k == 0) = false := by rw [beq_eq_false_iff_ne]; omega
    by_cases e1 : k = 1
    · subst e1
      clear e0 z0
      go_wp2_with fail
      exact bodyPost_ret (v := .agg #[.int .i64 (-2 * a), .int .i64 (-2 * b)]) (by simp [results, Try.results50, go_sem, d0, d1]) rfl ⟨_, _, rfl, by omega, by omega, by omega, by omega, ((h1.mono (by omega)).setOther (by omega) _).setOther (by omega) _, (hE.setNew (by omega) _ _).setNew (by omega) _ _⟩
    · have z1 : (k == 1) = false := by rw [beq_eq_false_iff_ne]; omega
      clear e0 e1
      go_wp2_with fail
      refine (way_any B (u + 1) 20 _ h1 (by omega) (by omega) (by omega)).mono ?_; rintro e w2 ⟨p, q, rfl, p0, p1, q0, q1, h2, hx2⟩
      have hR2 := blk_ext hR hx2 (by omega)
      have hE2 := hE.trans hx2
      obtain ⟨m0, m1, n0, n1, hz2⟩ := blk2 hR2
      go_wp2_with fail
      exact bodyPost_ret (v := .agg #[.int .i64 p, .int .i64 q]) (by simp [results, Try.results50, go_sem, m0, m1]) rfl ⟨_, _, rfl, by omega, by omega, by omega, by omega, ((h2.mono (by omega)).setOther (by omega) _).setOther (by omega) _, (hE2.setNew (by omega) _ _).setNew (by omega) _ _⟩
def TwoIs (B : Nat) (u : Int) (w : World) (e : Ending) (w' : World) : Prop :=
  ∃ a b c d : Int, e = .returned (.tuple #[.agg #[.int .i64 a, .int .i64 b], .agg #[.int .i64 c, .int .i64 d]]) ∧ -1001 ≤ a ∧ a ≤ 1001 ∧ -1001 ≤ b ∧ b ≤ 1001 ∧ -3003 ≤ c ∧ c ≤ 3003 ∧ -3003 ≤ d ∧ d ≤ 3003 ∧ RdU B u w' ∧ Ext B w w'
set_option maxHeartbeats 4000000 in
theorem two_any (B : Nat) (u : Int) (w : World) (h : RdU B u w) (hu : u ≤ 600000) : Calls Try.prog 39 #[.pointer (some ⟨B, 0, none⟩)] w (TwoIs B (u + 17) w) := by
  have hBw := h.lt
  go_enter Try.func39, Try.ntmps39
  go_wp2_with fail
  refine (way_any B u 14 _ ((h.alloc _).alloc _) (by omega) (by omega) (by omega)).mono ?_; rintro e w1 ⟨a, b, rfl, a0, a1, b0, b1, h1, hx1⟩
  have hP := blk_ext (blk_old (blk_new w (.cells #[.int .i64 0, .int .i64 0] 24)) _) hx1 (by omega)
  have hR := blk_ext (new2 w (.cells #[.int .i64 0, .int .i64 0] 24) _) hx1 (by omega)
  have hE : Ext B w w1 := (((Ext.refl B w).alloc _).alloc _).trans hx1
  have hB1 := h1.lt
  have hRC := blk_lt hR
  go_wp2_with fail
  have hA := blk_new w1 (.cells #[.int .i64 a, .int .i64 b] 24)
  have h1d : RdU B (u + 8) (w1.alloc (.cells #[.int .i64 a, .int .i64 b] 24)).drew := h1.alloc _
  have hEd : Ext B w (w1.alloc (.cells #[.int .i64 a, .int .i64 b] 24)).drew := by have hEa := hE.alloc (.cells #[.int .i64 a, .int .i64 b] 24); exact ⟨hEa.os, hEa.tape, hEa.output, hEa.size, hEa.block⟩
  have hPd : (w1.alloc (.cells #[.int .i64 a, .int .i64 b] 24)).drew.heap[w.heap.size]? = _ := blk_old hP _
  have hRd : (w1.alloc (.cells #[.int .i64 a, .int .i64 b] 24)).drew.heap[w.heap.size + 1]? = _ := blk_old hR _
  refine wp_region_held_drew (S := fun w' => w'.heap[w1.heap.size]? = some (.cells #[.int .i64 a, .int .i64 b] 24 (0, 0))) (by kernel_rfl) hA (fun hHeld => ?_)
  refine wpAnyH_take (i := 0) (oi := _) (v := ?_) rfl (by kernel_rfl) (by kernel_rfl) (by kernel_rfl) (fun _ _ _ h => h) (Or.inl ⟨by rfl, ?_⟩) (by assumption) ?_
  (rotate_left); (focus (intro wv hSw; (obtain ⟨_, _, _, _, _⟩ := blk2 hSw); go_simp; (try with_reducible rfl)))
  try simp only [Act.put, List.getElem_toArray, List.getElem_cons_succ, List.getElem_cons_zero, List.setIfInBounds_toArray, List.set_cons_zero, List.set_cons_succ]
  refine wpAnyH_take (i := 1) (oi := _) (v := ?_) rfl (by kernel_rfl) (by kernel_rfl) (by kernel_rfl) (fun _ _ _ h => h) (Or.inl ⟨by rfl, ?_⟩) (by assumption) ?_
  (rotate_left); (focus (intro wv hSw; (obtain ⟨_, _, _, _, _⟩ := blk2 hSw); go_simp; (try with_reducible rfl)))
  try simp only [Act.put, List.getElem_toArray, List.getElem_cons_succ, List.getElem_cons_zero, List.setIfInBounds_toArray, List.set_cons_zero, List.set_cons_succ]
  refine wpAnyH_take (i := 2) (oi := _) (v := ?_) rfl (by kernel_rfl) (by kernel_rfl) (by kernel_rfl) (fun _ _ _ h => h) (Or.inl ⟨by rfl, ?_⟩) (by assumption) ?_
  (rotate_left); (focus (intro wv hSw; (obtain ⟨_, _, _, _, _⟩ := blk2 hSw); go_simp; (try with_reducible rfl)))
  try simp only [Act.put, List.getElem_toArray, List.getElem_cons_succ, List.getElem_cons_zero, List.setIfInBounds_toArray, List.set_cons_zero, List.set_cons_succ]
  refine wpAnyH_ready (rs := [3]) (by kernel_rfl) (by simp) ?_
  refine AllReadyH.cons (o := _) rfl (fun K hK => ?_) AllReadyH.nil
  go_simp
  (go_at_call 50; refine (other_any B (u + 8) a b _ h1d (by omega) a0 a1 b0 b1).mono ?_; rintro e w2 ⟨c, d, rfl, c0, c1, d0, d1, h2, hx2⟩)
  have hAd : (w1.alloc (.cells #[.int .i64 a, .int .i64 b] 24)).drew.heap[w1.heap.size]? = some (.cells #[.int .i64 a, .int .i64 b] 24 (0, 0)) := hA
  have hA2 := blk_ext hAd hx2 (by omega)
  refine hK.out _ _ hA2 (fun hHeld => ?_)
  clear hK K
  try simp only [Act.put, List.getElem_toArray, List.getElem_cons_succ, List.getElem_cons_zero, List.setIfInBounds_toArray, List.set_cons_zero, List.set_cons_succ]
  have hP2 := blk_ext hPd hx2 (by omega)
  have hR2 := blk_ext hRd hx2 (by omega)
  have hE2 := hEd.trans hx2
  obtain ⟨m0, m1, n0, n1, hz2⟩ := blk2 hP2
  obtain ⟨r0, r1, s0, s1, hz3⟩ := blk2 hR2
  refine wpAnyH_ready (rs := [4]) (by kernel_rfl) (by simp) ?_
  refine AllReadyH.cons (o := _) rfl (fun K hK => ?_) AllReadyH.nil
  go_simp
  refine hK.out _ _ (blk_store2 hA2 (by omega) _ _) (fun hHeld => ?_)
  clear hK K
  try simp only [Act.put, List.getElem_toArray, List.getElem_cons_succ, List.getElem_cons_zero, List.setIfInBounds_toArray, List.set_cons_zero, List.set_cons_succ]
  have hP3 := blk2_set (a := .int .i64 a) (b := .int .i64 b) hP2
  have hR3 := blk_store2 (C := w.heap.size) hR2 (by omega) (.int .i64 a) (.int .i64 b)
  obtain ⟨t0, t1, u0, u1, hz4⟩ := blk2 hR3
  refine wpAnyH_ready (rs := [5]) (by kernel_rfl) (by simp) ?_
  refine AllReadyH.cons (o := _) rfl (fun K hK => ?_) AllReadyH.nil
  go_simp
  refine hK.out _ _ (blk_store2 (blk_store2 hA2 (by omega) _ _) (by omega) _ _) (fun hHeld => ?_)
  clear hK K
  try simp only [Act.put, List.getElem_toArray, List.getElem_cons_succ, List.getElem_cons_zero, List.setIfInBounds_toArray, List.set_cons_zero, List.set_cons_succ]
  have hP4 := blk_store2 (C := w.heap.size + 1) hP3 (by omega) (.int .i64 c) (.int .i64 d)
  have hR4 := blk2_set (a := .int .i64 c) (b := .int .i64 d) hR3
  obtain ⟨v0, v1, _, _, _⟩ := blk2 hP4
  obtain ⟨x0, x1, _, _, _⟩ := blk2 hR4
  refine wpAnyH_done (by kernel_rfl) ?_ _
  go_wp2_with fail
  refine bodyPost_ret (v := .tuple #[.agg #[.int .i64 a, .int .i64 b], .agg #[.int .i64 c, .int .i64 d]]) (by simp [results, Try.results39, go_sem, v0, v1, x0, x1, m0, m1, r0, r1, t0, t1]) rfl ⟨_, _, _, _, rfl, a0, a1, b0, b1, c0, c1, d0, d1, ?_, ?_⟩
  · exact ((((h2.mono (by omega)).setOther (by omega) _).setOther (by omega) _).setOther (by omega) _).setOther (by omega) _
  · exact ((((hE2.setNew (by omega) _ _).setNew (by omega) _ _).setNew (by omega) _ _).setNew (by omega) _ _)
end Go.Proofs.Ytbegajmdadkknab
