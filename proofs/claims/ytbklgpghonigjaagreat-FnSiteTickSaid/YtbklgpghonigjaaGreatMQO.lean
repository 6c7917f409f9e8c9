/- QO: texts joined. -/
import Derived.Test.YtbklgpghonigjaaGreatMQN
import Derived.Test.YtbklgpghonigjaaGreatMQD
import Derived.RegionTactic
import Derived.Test.YtbklgpghonigjaaGreatMQC
import Derived.Test.YtbklgpghonigjaaGreatMQA
import Derived.Laws.AppendOwn
namespace Go.Proofs.YtbklgpghonigjaaGreat
open Go Go.ChangeShapes Go.WideShapes Go.ChangeAt Go.RowKit
set_option linter.unusedSimpArgs false
set_option linter.unusedVariables false
theorem blk2_at1 {w : World} {C : Nat} {x0 x1 v : Value} {t : TypeId} (h : w.heap[C]? = some (.cells #[x0, x1] t (0, 0))) : (w.setCell ⟨C, 1, none⟩ v).heap[C]? = some (.cells #[x0, v] t (0, 0)) := by
  have hlt := blk_lt h
  have h' : w.heap[C] = .cells #[x0, x1] t (0, 0) := by simpa [Array.getElem?_eq_getElem hlt] using h
  show (w.heap.modify C _)[C]? = _
  rw [Array.getElem?_eq_getElem (by simpa using hlt), Array.getElem_modify_self, h']
  rfl
theorem blk3_at2 {w : World} {C : Nat} {x0 x1 x2 v : Value} {t : TypeId} (h : w.heap[C]? = some (.cells #[x0, x1, x2] t (0, 0))) : (w.setCell ⟨C, 2, none⟩ v).heap[C]? = some (.cells #[x0, x1, v] t (0, 0)) := by
  have hlt := blk_lt h
  have h' : w.heap[C] = .cells #[x0, x1, x2] t (0, 0) := by simpa [Array.getElem?_eq_getElem hlt] using h
  show (w.heap.modify C _)[C]? = _
  rw [Array.getElem?_eq_getElem (by simpa using hlt), Array.getElem_modify_self, h']
  rfl
theorem blk5_at1 {w : World} {C : Nat} {x0 x1 x2 x3 x4 v : Value} {t : TypeId} (h : w.heap[C]? = some (.cells #[x0, x1, x2, x3, x4] t (0, 0))) : (w.setCell ⟨C, 1, none⟩ v).heap[C]? = some (.cells #[x0, v, x2, x3, x4] t (0, 0)) := by
  have hlt := blk_lt h
  have h' : w.heap[C] = .cells #[x0, x1, x2, x3, x4] t (0, 0) := by simpa [Array.getElem?_eq_getElem hlt] using h
  show (w.heap.modify C _)[C]? = _
  rw [Array.getElem?_eq_getElem (by simpa using hlt), Array.getElem_modify_self, h']
  rfl
theorem blk5_at2 {w : World} {C : Nat} {x0 x1 x2 x3 x4 v : Value} {t : TypeId} (h : w.heap[C]? = some (.cells #[x0, x1, x2, x3, x4] t (0, 0))) : (w.setCell ⟨C, 2, none⟩ v).heap[C]? = some (.cells #[x0, x1, v, x3, x4] t (0, 0)) := by
  have hlt := blk_lt h
  have h' : w.heap[C] = .cells #[x0, x1, x2, x3, x4] t (0, 0) := by simpa [Array.getElem?_eq_getElem hlt] using h
  show (w.heap.modify C _)[C]? = _
  rw [Array.getElem?_eq_getElem (by simpa using hlt), Array.getElem_modify_self, h']
  rfl
theorem blk5_at3 {w : World} {C : Nat} {x0 x1 x2 x3 x4 v : Value} {t : TypeId} (h : w.heap[C]? = some (.cells #[x0, x1, x2, x3, x4] t (0, 0))) : (w.setCell ⟨C, 3, none⟩ v).heap[C]? = some (.cells #[x0, x1, x2, v, x4] t (0, 0)) := by
  have hlt := blk_lt h
  have h' : w.heap[C] = .cells #[x0, x1, x2, x3, x4] t (0, 0) := by simpa [Array.getElem?_eq_getElem hlt] using h
  show (w.heap.modify C _)[C]? = _
  rw [Array.getElem?_eq_getElem (by simpa using hlt), Array.getElem_modify_self, h']
  rfl
theorem blk5_at4 {w : World} {C : Nat} {x0 x1 x2 x3 x4 v : Value} {t : TypeId} (h : w.heap[C]? = some (.cells #[x0, x1, x2, x3, x4] t (0, 0))) : (w.setCell ⟨C, 4, none⟩ v).heap[C]? = some (.cells #[x0, x1, x2, x3, v] t (0, 0)) := by
  have hlt := blk_lt h
  have h' : w.heap[C] = .cells #[x0, x1, x2, x3, x4] t (0, 0) := by simpa [Array.getElem?_eq_getElem hlt] using h
  show (w.heap.modify C _)[C]? = _
  rw [Array.getElem?_eq_getElem (by simpa using hlt), Array.getElem_modify_self, h']
  rfl
def PlaceIs (B : Nat) (u : Int) (w : World) (e : Ending) (w' : World) : Prop :=
  ∃ a b : Int, e = .returned (.agg #[.int .i64 a, .int .i64 b]) ∧ (-100 ≤ a ∧ a ≤ 100) ∧ (-100 ≤ b ∧ b ≤ 100) ∧ RdU B u w' ∧ Ext B w w'
def BlockIs (B : Nat) (u : Int) (w : World) (e : Ending) (w' : World) : Prop :=
  ∃ a b c d f : Int, e = .returned (.agg #[.int .i64 a, .int .i64 b, .int .i64 c, .int .i64 d, .int .i64 f]) ∧ (-100 ≤ a ∧ a ≤ 100) ∧ (-100 ≤ b ∧ b ≤ 100) ∧ (-100 ≤ c ∧ c ≤ 100) ∧ (-100 ≤ d ∧ d ≤ 100) ∧ (-100 ≤ f ∧ f ≤ 100) ∧ RdU B u w' ∧ Ext B w w'
set_option maxRecDepth 100000 in
set_option maxHeartbeats 8000000 in
theorem place_any (B : Nat) (u n : Int) (w : World) (h : RdU B u w) (hu : u ≤ 800000) (hn : 0 ≤ n) (hn1 : n ≤ 1000000) : Calls Tryz.prog 88 #[.pointer (some ⟨B, 0, none⟩), .int .i64 n] w (PlaceIs B (u + 4) w) := by
  have hBw := h.lt
  go_enter Tryz.func88, Tryz.ntmps88
  go_wp2_with fail
  refine (pick_any B (u) 25 _ (h.alloc _) (by omega) (by omega) (by omega)).mono ?_; rintro e w1 ⟨a1, rfl, a10, a11, hw1, hxw1⟩
  go_wp2_with fail
  refine (pick_any B (u + 1) 25 _ hw1 (by omega) (by omega) (by omega)).mono ?_; rintro e w2 ⟨a2, rfl, a20, a21, hw2, hxw2⟩
  go_wp2_with fail
  have hB2 := hw2.lt
  refine (odd0_any B (u + 1 + 1) n _ (hw2.alloc _) (by omega) hn hn1).mono ?_; rintro e w3 ⟨b, rfl, hw3, hxw3⟩
  have hR2 := blk_ext (blk_ext (blk_new w (.cells #[.int .i64 0, .int .i64 0] 25)) hxw1 (by omega)) hxw2 (by omega)
  have hRC := blk_lt hR2
  have hR := blk_ext (blk_old hR2 _) hxw3 (by omega)
  have hC := blk_ext (blk_new w2 (.cells #[.int .i64 (a1 - 12), .int .i64 (a2 - 12)] 25)) hxw3 (by omega)
  have hE : Ext B w w3 := (((((Ext.refl B w).alloc _).trans hxw1).trans hxw2).alloc _).trans hxw3
  clear hxw1 hxw2 hxw3 hR2 hw1 hw2 hB2
  generalize w2.heap.size = C at *
  cases b
  · obtain ⟨c0, c1, cf0, cf1, zC⟩ := blk2 hC
    obtain ⟨r0, r1, s0, s1, zR⟩ := blk2 hR
    go_wp2_with fail
    exact bodyPost_ret (v := .agg #[.int .i64 (a1 - 12), .int .i64 (a2 - 12)]) (by simp [results, Tryz.results88, go_sem, r0, r1]) rfl ⟨_, _, rfl, ⟨by omega, by omega⟩, ⟨by omega, by omega⟩, (((hw3.mono (u' := u + 4) (by omega)).setOther (by omega) _).setOther (by omega) _), ((hE.setNew (by omega) _ _).setNew (by omega) _ _)⟩
  · go_wp2_with fail
    have hz3 := hw3.lt
    have hc3 := blk_lt hC
    refine (pick_any B (u + 1 + 1 + 1) 2 _ (hw3.alloc _) (by omega) (by omega) (by omega)).mono ?_; rintro e w4 ⟨a4, rfl, a40, a41, hw4, hxw4⟩
    have hC4 := blk_ext (blk_old hC _) hxw4 (by omega)
    have hR4 := blk_ext (blk_old hR _) hxw4 (by omega)
    have hE4 := (hE.alloc _).trans hxw4
    obtain ⟨v, hv, v0, v1⟩ := blk_int_at [-51, 51] (blk_ext (blk_new w3 _) hxw4 (by omega)) (-51) 51 (by decide) a4.toNat (by simp; omega)
    have hC5 := blk2_at1 (v := .int .i64 v) hC4
    have hR5 := blk_setOther (i := 1) hR4 (show w.heap.size ≠ C by omega) (.int .i64 v)
    have hE5 := hE4.setNew (show w.heap.size ≤ C by omega) 1 (.int .i64 v)
    have h5 := hw4.setOther (show B < C by omega) (i := 1) (.int .i64 v)
    obtain ⟨c0, c1, cf0, cf1, zC⟩ := blk2 hC4
    obtain ⟨d0, d1, df0, df1, zC⟩ := blk2 hC5
    obtain ⟨r0, r1, s0, s1, zR⟩ := blk2 hR5
    go_wp2_with fail
    exact bodyPost_ret (v := .agg #[.int .i64 (a1 - 12), .int .i64 v]) (by simp [results, Tryz.results88, go_sem, r0, r1]) rfl ⟨_, _, rfl, ⟨by omega, by omega⟩, ⟨by omega, by omega⟩, (((h5.mono (u' := u + 4) (by omega)).setOther (by omega) _).setOther (by omega) _), ((hE5.setNew (by omega) _ _).setNew (by omega) _ _)⟩
theorem blk_drw {w : World} {k : Nat} {o : Obj} (h : w.heap[k]? = some o) : w.drew.heap[k]? = some o := h
theorem RdU.drw {B : Nat} {u : Int} {w : World} (h : RdU B u w) : RdU B u w.drew := h
theorem Ext.drw {B : Nat} {a w : World} (h : Ext B a w) : Ext B a w.drew := h.drewN 1
set_option maxRecDepth 100000 in
set_option maxHeartbeats 8000000 in
theorem block_any (B : Nat) (u n : Int) (w : World) (h : RdU B u w) (hu : u ≤ 800000) (hn : 0 ≤ n) (hn1 : n ≤ 1000000) : Calls Tryz.prog 126 #[.pointer (some ⟨B, 0, none⟩), .int .i64 n] w (BlockIs B (u + 8) w) := by
  have hBw := h.lt
  go_enter Tryz.func126, Tryz.ntmps126
  go_wp2_with fail
  refine (pick_any B (u) 20 _ (h.alloc _) (by omega) (by omega) (by omega)).mono ?_; rintro e w1 ⟨a1, rfl, a10, a11, hw1, hxw1⟩
  go_wp2_with fail
  refine (pick_any B (u + 1) 20 _ hw1 (by omega) (by omega) (by omega)).mono ?_; rintro e w2 ⟨a2, rfl, a20, a21, hw2, hxw2⟩
  go_wp2_with fail
  refine (pick_any B (u + 1 + 1) 12 _ hw2 (by omega) (by omega) (by omega)).mono ?_; rintro e w3 ⟨a3, rfl, a30, a31, hw3, hxw3⟩
  have hB3 := hw3.lt
  go_wp2_with fail
  have hR3 := blk_ext (blk_ext (blk_ext (blk_new w (.cells #[.int .i64 0, .int .i64 0, .int .i64 0, .int .i64 0, .int .i64 0] 40)) hxw1 (by omega)) hxw2 (by omega)) hxw3 (by omega)
  have hRC := blk_lt hR3
  have hZ_0 := blk_drw (blk_old hR3 (.cells #[.int .i64 (a1 - 12), .int .i64 0, .int .i64 (a2 - 12), .int .i64 0, .int .i64 (1 + a3)] 40 (0, 0)))
  have hC_0 := blk_drw (blk_new w3 (.cells #[.int .i64 (a1 - 12), .int .i64 0, .int .i64 (a2 - 12), .int .i64 0, .int .i64 (1 + a3)] 40 (0, 0)))
  have hE_0 : Ext B w _ := ((((((Ext.refl B w).alloc _).trans hxw1).trans hxw2).trans hxw3).alloc (.cells #[.int .i64 (a1 - 12), .int .i64 0, .int .i64 (a2 - 12), .int .i64 0, .int .i64 (1 + a3)] 40 (0, 0))).drw
  have hR_0 := (hw3.alloc (.cells #[.int .i64 (a1 - 12), .int .i64 0, .int .i64 (a2 - 12), .int .i64 0, .int .i64 (1 + a3)] 40 (0, 0))).drw
  clear hxw1 hxw2 hxw3 hR3 hw1 hw2 hw3
  generalize w3.heap.size = C at *
  refine wp_region_held_drew (S := (fun w' => w'.cell? ⟨C, 0, none⟩ = some (.int .i64 (a1 - 12)))) (by kernel_rfl) ((blk5 (hC_0)).1) (fun hHeld => ?_)
  have hc_0 := id hHeld
  refine wpAnyH_take (i := 0) (oi := _) (v := ?_) rfl (by kernel_rfl) (by kernel_rfl) (by kernel_rfl) (fun _ _ _ h => h) (Or.inl ⟨by rfl, ?_⟩) (by assumption) ?_
  (rotate_left); (focus (intro wv hSw; (have qc := hSw);  go_simp; (try with_reducible rfl)))
  try simp only [Act.put, List.getElem_toArray, List.getElem_cons_succ, List.getElem_cons_zero, List.setIfInBounds_toArray, List.set_cons_zero, List.set_cons_succ]
  refine wpAnyH_take (i := 1) (oi := _) (v := ?_) rfl (by kernel_rfl) (by kernel_rfl) (by kernel_rfl) (fun _ _ _ h => h) (Or.inl ⟨by rfl, ?_⟩) (by assumption) ?_
  (rotate_left); (focus (intro wv hSw; (have qc := hSw);  go_simp; (try with_reducible rfl)))
  try simp only [Act.put, List.getElem_toArray, List.getElem_cons_succ, List.getElem_cons_zero, List.setIfInBounds_toArray, List.set_cons_zero, List.set_cons_succ]
  refine wpAnyH_take (i := 2) (oi := _) (v := ?_) rfl (by kernel_rfl) (by kernel_rfl) (by kernel_rfl) (fun _ _ _ h => h) (Or.inl ⟨by rfl, ?_⟩) (by assumption) ?_
  (rotate_left); (focus (intro wv hSw; (have qc := hSw);  go_simp; (try with_reducible rfl)))
  try simp only [Act.put, List.getElem_toArray, List.getElem_cons_succ, List.getElem_cons_zero, List.setIfInBounds_toArray, List.set_cons_zero, List.set_cons_succ]
  refine wpAnyH_take (i := 3) (oi := _) (v := ?_) rfl (by kernel_rfl) (by kernel_rfl) (by kernel_rfl) (fun _ _ _ h => h) (Or.inl ⟨by rfl, ?_⟩) (by assumption) ?_
  (rotate_left); (focus (intro wv hSw; (have qc := hSw);  go_simp; (try with_reducible rfl)))
  try simp only [Act.put, List.getElem_toArray, List.getElem_cons_succ, List.getElem_cons_zero, List.setIfInBounds_toArray, List.set_cons_zero, List.set_cons_succ]
  refine wpAnyH_ready (rs := [4]) (by kernel_rfl) (by simp) ?_
  refine AllReadyH.cons (o := _) rfl (fun K hK => ?_) AllReadyH.nil
  go_simp
  (go_at_call 62; refine (pick_any B (u + 1 + 1 + 1) 8 _ hR_0 (by omega) (by omega) (by omega)).mono ?_; rintro e x0c ⟨a4, rfl, a40, a41, hR_0c, hw_0c⟩)
  refine hK.out _ _ ((blk5 (blk_ext hC_0 hw_0c (by omega))).1) (fun hHeld => ?_)
  clear hK K
  try simp only [Act.put, List.getElem_toArray, List.getElem_cons_succ, List.getElem_cons_zero, List.setIfInBounds_toArray, List.set_cons_zero, List.set_cons_succ]
  have hc_0c := id hHeld
  have hC_0c := blk_ext hC_0 hw_0c (by omega)
  have hZ_0c := blk_ext hZ_0 hw_0c (by omega)
  have hE_0c := hE_0.trans hw_0c
  refine wpAnyH_take (i := 5) (oi := _) (v := ?_) rfl (by kernel_rfl) (by kernel_rfl) (by kernel_rfl) (fun _ _ _ h => h) (Or.inl ⟨by rfl, ?_⟩) (by assumption) ?_
  (rotate_left); (focus (intro wv hSw; (have qc := hSw);  go_simp; (try with_reducible rfl)))
  try simp only [Act.put, List.getElem_toArray, List.getElem_cons_succ, List.getElem_cons_zero, List.setIfInBounds_toArray, List.set_cons_zero, List.set_cons_succ]
  refine wpAnyH_take (i := 6) (oi := _) (v := ?_) rfl (by kernel_rfl) (by kernel_rfl) (by kernel_rfl) (fun _ _ _ h => h) (Or.inl ⟨by rfl, ?_⟩) (by assumption) ?_
  (rotate_left); (focus (intro wv hSw; (have qc := hSw);  go_simp; (try with_reducible rfl)))
  try simp only [Act.put, List.getElem_toArray, List.getElem_cons_succ, List.getElem_cons_zero, List.setIfInBounds_toArray, List.set_cons_zero, List.set_cons_succ]
  obtain ⟨_, _, _, _, _, _, _, _, _, _, _⟩ := blk5 hC_0c
  refine wpAnyH_ready (rs := [7]) (by kernel_rfl) (by simp) ?_
  refine AllReadyH.cons (o := _) rfl (fun K hK => ?_) AllReadyH.nil
  go_simp
  refine hK.out _ _ ((blk5 (blk5_at1 hC_0c)).1) (fun hHeld => ?_)
  clear hK K
  try simp only [Act.put, List.getElem_toArray, List.getElem_cons_succ, List.getElem_cons_zero, List.setIfInBounds_toArray, List.set_cons_zero, List.set_cons_succ]
  have hc_0cw := id hHeld
  have hC_0cw := blk5_at1 (v := .int .i64 (IntKind.i64.wrap (IntKind.i64.wrap (a1 - 12 + 1) + a4))) hC_0c
  have hZ_0cw := blk_setOther (i := 1) hZ_0c (show w.heap.size ≠ C by omega) (.int .i64 (IntKind.i64.wrap (IntKind.i64.wrap (a1 - 12 + 1) + a4)))
  have hE_0cw := hE_0c.setNew (show w.heap.size ≤ C by omega) 1 (.int .i64 (IntKind.i64.wrap (IntKind.i64.wrap (a1 - 12 + 1) + a4)))
  have hR_0cw := hR_0c.setOther (show B < C by omega) (i := 1) (.int .i64 (IntKind.i64.wrap (IntKind.i64.wrap (a1 - 12 + 1) + a4)))
  refine wpAnyH_done (by kernel_rfl) ?_ _
  clear hC_0 hC_0c hZ_0 hZ_0c hE_0 hE_0c hR_0 hR_0c hc_0 hc_0c hc_0cw hHeld
  have ew : IntKind.i64.wrap (IntKind.i64.wrap (a1 - 12 + 1) + a4) = a1 - 12 + 1 + a4 := by rw [IntWalk.i64_in (a1 - 12 + 1) (by omega)]; exact IntWalk.i64_in _ (by omega)
  rw [ew] at hC_0cw hZ_0cw hE_0cw hR_0cw ⊢
  clear ew
  have hC_0 := blk_drw hC_0cw
  have hZ_0 := blk_drw hZ_0cw
  have hE_0 := hE_0cw.drw
  have hR_0 := hR_0cw.drw
  clear hC_0cw hZ_0cw hE_0cw hR_0cw
  go_wp2_with fail
  refine wp_region_held_drew (S := (fun w' => w'.cell? ⟨C, 2, none⟩ = some (.int .i64 (a2 - 12)))) (by kernel_rfl) ((blk5 (hC_0)).2.2.1) (fun hHeld => ?_)
  have hc_0 := id hHeld
  refine wpAnyH_take (i := 0) (oi := _) (v := ?_) rfl (by kernel_rfl) (by kernel_rfl) (by kernel_rfl) (fun _ _ _ h => h) (Or.inl ⟨by rfl, ?_⟩) (by assumption) ?_
  (rotate_left); (focus (intro wv hSw; (have qc := hSw);  go_simp; (try with_reducible rfl)))
  try simp only [Act.put, List.getElem_toArray, List.getElem_cons_succ, List.getElem_cons_zero, List.setIfInBounds_toArray, List.set_cons_zero, List.set_cons_succ]
  refine wpAnyH_take (i := 1) (oi := _) (v := ?_) rfl (by kernel_rfl) (by kernel_rfl) (by kernel_rfl) (fun _ _ _ h => h) (Or.inl ⟨by rfl, ?_⟩) (by assumption) ?_
  (rotate_left); (focus (intro wv hSw; (have qc := hSw);  go_simp; (try with_reducible rfl)))
  try simp only [Act.put, List.getElem_toArray, List.getElem_cons_succ, List.getElem_cons_zero, List.setIfInBounds_toArray, List.set_cons_zero, List.set_cons_succ]
  refine wpAnyH_take (i := 2) (oi := _) (v := ?_) rfl (by kernel_rfl) (by kernel_rfl) (by kernel_rfl) (fun _ _ _ h => h) (Or.inl ⟨by rfl, ?_⟩) (by assumption) ?_
  (rotate_left); (focus (intro wv hSw; (have qc := hSw);  go_simp; (try with_reducible rfl)))
  try simp only [Act.put, List.getElem_toArray, List.getElem_cons_succ, List.getElem_cons_zero, List.setIfInBounds_toArray, List.set_cons_zero, List.set_cons_succ]
  refine wpAnyH_take (i := 3) (oi := _) (v := ?_) rfl (by kernel_rfl) (by kernel_rfl) (by kernel_rfl) (fun _ _ _ h => h) (Or.inl ⟨by rfl, ?_⟩) (by assumption) ?_
  (rotate_left); (focus (intro wv hSw; (have qc := hSw);  go_simp; (try with_reducible rfl)))
  try simp only [Act.put, List.getElem_toArray, List.getElem_cons_succ, List.getElem_cons_zero, List.setIfInBounds_toArray, List.set_cons_zero, List.set_cons_succ]
  refine wpAnyH_ready (rs := [4]) (by kernel_rfl) (by simp) ?_
  refine AllReadyH.cons (o := _) rfl (fun K hK => ?_) AllReadyH.nil
  go_simp
  (go_at_call 62; refine (pick_any B (u + 1 + 1 + 1 + 1) 8 _ hR_0 (by omega) (by omega) (by omega)).mono ?_; rintro e x0c ⟨a5, rfl, a50, a51, hR_0c, hw_0c⟩)
  refine hK.out _ _ ((blk5 (blk_ext hC_0 hw_0c (by omega))).2.2.1) (fun hHeld => ?_)
  clear hK K
  try simp only [Act.put, List.getElem_toArray, List.getElem_cons_succ, List.getElem_cons_zero, List.setIfInBounds_toArray, List.set_cons_zero, List.set_cons_succ]
  have hc_0c := id hHeld
  have hC_0c := blk_ext hC_0 hw_0c (by omega)
  have hZ_0c := blk_ext hZ_0 hw_0c (by omega)
  have hE_0c := hE_0.trans hw_0c
  refine wpAnyH_take (i := 5) (oi := _) (v := ?_) rfl (by kernel_rfl) (by kernel_rfl) (by kernel_rfl) (fun _ _ _ h => h) (Or.inl ⟨by rfl, ?_⟩) (by assumption) ?_
  (rotate_left); (focus (intro wv hSw; (have qc := hSw);  go_simp; (try with_reducible rfl)))
  try simp only [Act.put, List.getElem_toArray, List.getElem_cons_succ, List.getElem_cons_zero, List.setIfInBounds_toArray, List.set_cons_zero, List.set_cons_succ]
  refine wpAnyH_take (i := 6) (oi := _) (v := ?_) rfl (by kernel_rfl) (by kernel_rfl) (by kernel_rfl) (fun _ _ _ h => h) (Or.inl ⟨by rfl, ?_⟩) (by assumption) ?_
  (rotate_left); (focus (intro wv hSw; (have qc := hSw);  go_simp; (try with_reducible rfl)))
  try simp only [Act.put, List.getElem_toArray, List.getElem_cons_succ, List.getElem_cons_zero, List.setIfInBounds_toArray, List.set_cons_zero, List.set_cons_succ]
  obtain ⟨_, _, _, _, _, _, _, _, _, _, _⟩ := blk5 hC_0c
  refine wpAnyH_ready (rs := [7]) (by kernel_rfl) (by simp) ?_
  refine AllReadyH.cons (o := _) rfl (fun K hK => ?_) AllReadyH.nil
  go_simp
  refine hK.out _ _ ((blk5 (blk5_at3 hC_0c)).2.2.1) (fun hHeld => ?_)
  clear hK K
  try simp only [Act.put, List.getElem_toArray, List.getElem_cons_succ, List.getElem_cons_zero, List.setIfInBounds_toArray, List.set_cons_zero, List.set_cons_succ]
  have hc_0cw := id hHeld
  have hC_0cw := blk5_at3 (v := .int .i64 (IntKind.i64.wrap (IntKind.i64.wrap (a2 - 12 + 1) + a5))) hC_0c
  have hZ_0cw := blk_setOther (i := 3) hZ_0c (show w.heap.size ≠ C by omega) (.int .i64 (IntKind.i64.wrap (IntKind.i64.wrap (a2 - 12 + 1) + a5)))
  have hE_0cw := hE_0c.setNew (show w.heap.size ≤ C by omega) 3 (.int .i64 (IntKind.i64.wrap (IntKind.i64.wrap (a2 - 12 + 1) + a5)))
  have hR_0cw := hR_0c.setOther (show B < C by omega) (i := 3) (.int .i64 (IntKind.i64.wrap (IntKind.i64.wrap (a2 - 12 + 1) + a5)))
  refine wpAnyH_done (by kernel_rfl) ?_ _
  clear hC_0 hC_0c hZ_0 hZ_0c hE_0 hE_0c hR_0 hR_0c hc_0 hc_0c hc_0cw hHeld
  have ew : IntKind.i64.wrap (IntKind.i64.wrap (a2 - 12 + 1) + a5) = a2 - 12 + 1 + a5 := by rw [IntWalk.i64_in (a2 - 12 + 1) (by omega)]; exact IntWalk.i64_in _ (by omega)
  rw [ew] at hC_0cw hZ_0cw hE_0cw hR_0cw ⊢
  clear ew
  go_wp2_with fail
  refine (odd0_any B (u + 1 + 1 + 1 + 1 + 1) n _ hR_0cw (by omega) hn hn1).mono ?_; rintro e w6 ⟨b, rfl, hw6, hxw6⟩
  have hC := blk_ext hC_0cw hxw6 (by omega)
  have hR := blk_ext hZ_0cw hxw6 (by omega)
  have hE := hE_0cw.trans hxw6
  clear hC_0cw hZ_0cw hE_0cw hR_0cw hxw6
  cases b
  · obtain ⟨c0, c1, c2, c3, c4, cf0, cf1, cf2, cf3, cf4, zC⟩ := blk5 hC
    obtain ⟨r0, r1, r2, r3, r4, s0, s1, s2, s3, s4, zR⟩ := blk5 hR
    go_wp2_with fail
    exact bodyPost_ret (v := .agg #[.int .i64 (a1 - 12), .int .i64 (a1 - 12 + 1 + a4), .int .i64 (a2 - 12), .int .i64 (a2 - 12 + 1 + a5), .int .i64 (1 + a3)]) (by simp [results, Tryz.results126, go_sem, r0, r1, r2, r3, r4]) rfl ⟨_, _, _, _, _, rfl, ⟨by omega, by omega⟩, ⟨by omega, by omega⟩, ⟨by omega, by omega⟩, ⟨by omega, by omega⟩, ⟨by omega, by omega⟩, ((((((hw6.mono (u' := u + 8) (by omega)).setOther (by omega) _).setOther (by omega) _).setOther (by omega) _).setOther (by omega) _).setOther (by omega) _), (((((hE.setNew (by omega) _ _).setNew (by omega) _ _).setNew (by omega) _ _).setNew (by omega) _ _).setNew (by omega) _ _)⟩
  · go_wp2_with fail
    refine (pick_any B (u + 1 + 1 + 1 + 1 + 1 + 1) 3 _ hw6 (by omega) (by omega) (by omega)).mono ?_; rintro e w7 ⟨a7, rfl, a70, a71, hw7, hxw7⟩
    have hC7 := blk_ext hC hxw7 (by omega)
    have hR7 := blk_ext hR hxw7 (by omega)
    have hE7 := hE.trans hxw7
    have hB7 := hw7.lt
    have hc7 := blk_lt hC7
    clear hC hR hE hxw7 hw6
    by_cases k0 : a7 = 0
    · subst k0
      have hC9 := blk5_at1 (v := .int .i64 (a1 - 12)) hC7
      have hR9 := blk_setOther (i := 1) hR7 (show w.heap.size ≠ C by omega) (.int .i64 (a1 - 12))
      have hE9 := hE7.setNew (show w.heap.size ≤ C by omega) 1 (.int .i64 (a1 - 12))
      have h9 := hw7.setOther (show B < C by omega) (i := 1) (.int .i64 (a1 - 12))
      obtain ⟨c0, c1, c2, c3, c4, cf0, cf1, cf2, cf3, cf4, zC⟩ := blk5 hC7
      obtain ⟨d0, d1, d2, d3, d4, df0, df1, df2, df3, df4, zC⟩ := blk5 hC9
      obtain ⟨r0, r1, r2, r3, r4, s0, s1, s2, s3, s4, zR⟩ := blk5 hR9
      go_wp2_with fail
      exact bodyPost_ret (v := .agg #[.int .i64 (a1 - 12), .int .i64 (a1 - 12), .int .i64 (a2 - 12), .int .i64 (a2 - 12 + 1 + a5), .int .i64 (1 + a3)]) (by simp [results, Tryz.results126, go_sem, r0, r1, r2, r3, r4]) rfl ⟨_, _, _, _, _, rfl, ⟨by omega, by omega⟩, ⟨by omega, by omega⟩, ⟨by omega, by omega⟩, ⟨by omega, by omega⟩, ⟨by omega, by omega⟩, ((((((h9.mono (u' := u + 8) (by omega)).setOther (by omega) _).setOther (by omega) _).setOther (by omega) _).setOther (by omega) _).setOther (by omega) _), (((((hE9.setNew (by omega) _ _).setNew (by omega) _ _).setNew (by omega) _ _).setNew (by omega) _ _).setNew (by omega) _ _)⟩
    · have e0 : (a7 == 0) = false := by rw [beq_eq_false_iff_ne]; omega
      by_cases k1 : a7 = 1
      · subst k1
        clear k0 e0
        go_wp2_with fail
        refine (pick_any B (u + 1 + 1 + 1 + 1 + 1 + 1 + 1) 2 _ (hw7.alloc _) (by omega) (by omega) (by omega)).mono ?_; rintro e w8 ⟨a8, rfl, a80, a81, hw8, hxw8⟩
        have hC8 := blk_ext (blk_old hC7 _) hxw8 (by omega)
        have hR8 := blk_ext (blk_old hR7 _) hxw8 (by omega)
        have hE8 := (hE7.alloc _).trans hxw8
        obtain ⟨v, hv, v0, v1⟩ := blk_int_at [0, 31] (blk_ext (blk_new w7 _) hxw8 (by omega)) 0 31 (by decide) a8.toNat (by simp; omega)
        have hC9 := blk5_at4 (v := .int .i64 v) hC8
        have hR9 := blk_setOther (i := 4) hR8 (show w.heap.size ≠ C by omega) (.int .i64 v)
        have hE9 := hE8.setNew (show w.heap.size ≤ C by omega) 4 (.int .i64 v)
        have h9 := hw8.setOther (show B < C by omega) (i := 4) (.int .i64 v)
        obtain ⟨c0, c1, c2, c3, c4, cf0, cf1, cf2, cf3, cf4, zC⟩ := blk5 hC8
        obtain ⟨d0, d1, d2, d3, d4, df0, df1, df2, df3, df4, zC⟩ := blk5 hC9
        obtain ⟨r0, r1, r2, r3, r4, s0, s1, s2, s3, s4, zR⟩ := blk5 hR9
        go_wp2_with fail
        exact bodyPost_ret (v := .agg #[.int .i64 (a1 - 12), .int .i64 (a1 - 12 + 1 + a4), .int .i64 (a2 - 12), .int .i64 (a2 - 12 + 1 + a5), .int .i64 v]) (by simp [results, Tryz.results126, go_sem, r0, r1, r2, r3, r4]) rfl ⟨_, _, _, _, _, rfl, ⟨by omega, by omega⟩, ⟨by omega, by omega⟩, ⟨by omega, by omega⟩, ⟨by omega, by omega⟩, ⟨by omega, by omega⟩, ((((((h9.mono (u' := u + 8) (by omega)).setOther (by omega) _).setOther (by omega) _).setOther (by omega) _).setOther (by omega) _).setOther (by omega) _), (((((hE9.setNew (by omega) _ _).setNew (by omega) _ _).setNew (by omega) _ _).setNew (by omega) _ _).setNew (by omega) _ _)⟩
      · have e1 : (a7 == 1) = false := by rw [beq_eq_false_iff_ne]; omega
        clear k0 k1
        have hC9 := blk5_at2 (v := .int .i64 (-51)) hC7
        have hR9 := blk_setOther (i := 2) hR7 (show w.heap.size ≠ C by omega) (.int .i64 (-51))
        have hE9 := hE7.setNew (show w.heap.size ≤ C by omega) 2 (.int .i64 (-51))
        have h9 := hw7.setOther (show B < C by omega) (i := 2) (.int .i64 (-51))
        obtain ⟨c0, c1, c2, c3, c4, cf0, cf1, cf2, cf3, cf4, zC⟩ := blk5 hC7
        obtain ⟨d0, d1, d2, d3, d4, df0, df1, df2, df3, df4, zC⟩ := blk5 hC9
        obtain ⟨r0, r1, r2, r3, r4, s0, s1, s2, s3, s4, zR⟩ := blk5 hR9
        go_wp2_with fail
        exact bodyPost_ret (v := .agg #[.int .i64 (a1 - 12), .int .i64 (a1 - 12 + 1 + a4), .int .i64 (-51), .int .i64 (a2 - 12 + 1 + a5), .int .i64 (1 + a3)]) (by simp [results, Tryz.results126, go_sem, r0, r1, r2, r3, r4]) rfl ⟨_, _, _, _, _, rfl, ⟨by omega, by omega⟩, ⟨by omega, by omega⟩, ⟨by omega, by omega⟩, ⟨by omega, by omega⟩, ⟨by omega, by omega⟩, ((((((h9.mono (u' := u + 8) (by omega)).setOther (by omega) _).setOther (by omega) _).setOther (by omega) _).setOther (by omega) _).setOther (by omega) _), (((((hE9.setNew (by omega) _ _).setNew (by omega) _ _).setNew (by omega) _ _).setNew (by omega) _ _).setNew (by omega) _ _)⟩
end Go.Proofs.YtbklgpghonigjaaGreat
namespace Go.Proofs.YtbklgpghonigjaaGreat
open Go Go.ChangeShapes Go.WideShapes Go.ChangeAt Go.RowKit
set_option linter.unusedSimpArgs false
set_option linter.unusedVariables false
end Go.Proofs.YtbklgpghonigjaaGreat
namespace Go.Proofs.YtbklgpghonigjaaGreat
open Go Go.ChangeShapes Go.WideShapes Go.ChangeAt Go.RowKit
set_option linter.unusedSimpArgs false
set_option linter.unusedVariables false
end Go.Proofs.YtbklgpghonigjaaGreat
namespace Go.Proofs.YtbklgpghonigjaaGreat
open Go Go.ChangeShapes Go.WideShapes Go.ChangeAt Go.RowKit
set_option linter.unusedSimpArgs false
set_option linter.unusedVariables false
theorem SOwn.ext {α : Type} {E : Enc α} {w w' : World} {base B : Nat} {T : TypeId} {A : Option Addr} {cap : Nat} {xs : List α} (h : SOwn E w base T A cap xs) (hx : Ext B w w') (hB : B < base) : SOwn E w' base T A cap xs := by
  refine h.grown_far (row := some B) ⟨hx.os, hx.tape, hx.output, hx.size, fun k hk hne => hx.block k hk (fun e => hne (by rw [e]))⟩ (fun g hg e => ?_)
  rcases h.form with ⟨e2, _⟩ | ⟨g2, e2, hb, _⟩
  · rw [e2] at hg; cases hg
  · rw [e2] at hg; cases hg; cases e; omega
theorem RdU.far {B : Nat} {u : Int} {w w' : World} {row : Option Nat} (h : RdU B u w) (hg : w.grownBy w' row) (hne : ∀ k, row = some k → B < k) : RdU B u w' := by
  obtain ⟨sl, p, h1, h2, h3, h4⟩ := h
  have hb := hg.block B (blk_lt h1) (fun e => by have := hne B e.symm; omega)
  refine ⟨sl, p, by rw [hb]; exact h1, h2, h3, ?_⟩
  rcases h4 with h4 | ⟨b, off, len, cap, e, k1, k2, k3, k4⟩
  · exact .inl h4
  · refine .inr ⟨b, off, len, cap, e, k1, k2, k3, ?_⟩
    intro i hi
    obtain ⟨v, q1, q2⟩ := k4 i hi
    have hb2 := hg.block b (World.block_lt_of_cell? w _ q1) (fun e => by have := hne b e.symm; omega)
    refine ⟨v, ?_, q2⟩
    simp only [World.cell?] at q1 ⊢
    rw [hb2]; exact q1
theorem SOwn.ge_base {α : Type} {E : Enc α} {w : World} {base : Nat} {T : TypeId} {A : Option Addr} {cap n : Nat} {xs : List α} (h : SOwn E w base T A cap xs) : ∀ k, Value.ownBlock (.slice A n cap) = some k → base ≤ k := by
  intro k hk
  rcases h.form with ⟨rfl, _⟩ | ⟨g, rfl, hb, _⟩
  · simp [Value.ownBlock] at hk
  · simp [Value.ownBlock] at hk; omega
theorem Ext.far_grown {B : Nat} {a w w' : World} {row : Option Nat} (h : Ext B a w) (hg : w.grownBy w' row) (hr : ∀ k, row = some k → a.heap.size ≤ k) : Ext B a w' :=
  ⟨hg.os.trans h.os, hg.tape.trans h.tape, hg.output.trans h.output, Nat.le_trans h.size hg.size, fun k hk hne => (hg.block k (Nat.lt_of_lt_of_le hk h.size) (fun e => by have := hr k e.symm; omega)).trans (h.block k hk hne)⟩
theorem own_val {w : World} {base size n : Nat} {T : TypeId} {v : Value} {L : List Value} (h : w.ownsRow base T size v n L) : ∃ A cap, v = .slice A n cap := by
  rcases h.2 with ⟨e, e0⟩ | ⟨g, cap', cur, e, _⟩
  · exact ⟨none, 0, by rw [e, e0]⟩
  · exact ⟨_, _, e⟩
theorem SRow.news {α : Type} {E : Enc α} {w : World} {ad : Addr} {xs : List α} (h : SRow E w (some ad) xs) : ∀ j u, (E.flat xs)[j]? = some u → w.cell? (ad.add j) = some u := by
  intro j u hu
  rcases h with rfl | ⟨b, off, e, hc⟩
  · simp [E.flat_nil] at hu
  · obtain rfl := Option.some.inj e
    have hk := E.pos
    have hj : j < xs.length * E.k := by
      have := (List.getElem?_eq_some_iff.1 hu).1
      rwa [E.flat_len] at this
    have hq : j / E.k < xs.length := by rw [Nat.div_lt_iff_lt_mul hk]; exact hj
    have hm : j / E.k * E.k + j % E.k = j := by rw [Nat.mul_comm]; exact Nat.div_add_mod j E.k
    have e1 := E.flat_at xs (j / E.k) hq (j % E.k) (Nat.mod_lt j hk)
    rw [hm, hu] at e1
    have := hc (j / E.k) hq (j % E.k) u e1.symm
    rw [hm] at this
    unfold Addr.add
    split
    · rename_i e; subst e; exact this
    · exact this
theorem SOwn.tail {α : Type} {E : Enc α} {w : World} {base g cap : Nat} {T : TypeId} {xs : List α} (h : SOwn E w base T (some ⟨g, 0, none⟩) cap xs) : SRow E w (some ⟨g, E.k, none⟩) (xs.drop 1) := by
  refine .inr ⟨g, E.k, rfl, fun i hi j v hv => ?_⟩
  have hi2 : i + 1 < xs.length := by rw [List.length_drop] at hi; omega
  have := h.cell (i + 1) hi2 j v (by simpa [Nat.add_comm] using hv)
  rw [show E.k + (i * E.k + j) = (i + 1) * E.k + j by rw [Nat.add_mul]; omega]
  exact this
def BlocksIs (B : Nat) (u : Int) (w : World) (e : Ending) (w' : World) : Prop :=
  ∃ (xs : List VBlock) (A : Option Addr) (cap : Nat), e = .returned (.slice A xs.length cap) ∧ xs.length ≤ 6 ∧ SOwn encBlock w' w.heap.size 40 A cap xs ∧ RdU B u w' ∧ Ext B w w'
set_option maxRecDepth 100000 in
set_option maxHeartbeats 8000000 in
theorem blocks_any (B : Nat) (u n : Int) (w : World) (h : RdU B u w) (hu : u ≤ 600000) (hn : 0 ≤ n) (hn1 : n ≤ 1000000) : Calls Tryz.prog 87 #[.pointer (some ⟨B, 0, none⟩), .int .i64 n] w (BlocksIs B (u + 51) w) := by
  have hBw := h.lt
  obtain ⟨i0, hi0, hz0, hz1, hz2⟩ := info_parts infoBlock
  have HI := Lib.hid (And.intro hi0 (And.intro hz0 (And.intro hz1 hz2)))
  clear hi0 hz0 hz1 hz2
  go_enter Tryz.func87, Tryz.ntmps87
  go_wp2_with fail
  refine (pick_any B u 6 _ (h.alloc _) (by omega) (by omega) (by omega)).mono ?_; rintro e w1 ⟨k0, rfl, k00, k01, h1, hx1⟩
  have hO1 := (SOwn.empty (E := encBlock) (blk_new w (.cells #[] 40)) (Nat.le_refl _)).ext hx1 hBw
  have hE1 := ((Ext.refl B w).alloc (.cells #[] 40)).trans hx1
  go_wp2_with fail
  go_loopw [5, 6] (fun vo vk wr => ∃ (k : Int) (xs : List VBlock) (g cp m : Nat), vk = .int .i64 k ∧ vo = .slice (some ⟨g, 0, none⟩) m cp ∧ 0 ≤ k ∧ (m : Int) + k ≤ 5 ∧ Hid (xs.length = m) ∧ SOwn encBlock wr w.heap.size 40 (some ⟨g, 0, none⟩) cp xs ∧ RdU B (u + 1 + 8 * (5 - k)) wr ∧ Ext B w wr) (fun _ vk _ => (intOf vk).toNat)
  case atStart => exact ⟨k0, [], _, 0, 0, rfl, rfl, k00, by omega, (by show _ = _; rfl), hO1, h1.mono (by omega), hE1⟩
  case round =>
    obtain ⟨k, xs, g, cp, m, rfl, rfl, k0', mk, HM, hO, hR, hX⟩ := hrel
    by_cases hk : 0 < k
    · go_wp2_with fail
      refine (block_any B _ 0 _ hR (by omega) (by omega) (by omega)).mono ?_; rintro e w2 ⟨b0, b1, b2, b3, b4, rfl, ⟨b0_0, b0_1⟩, ⟨b1_0, b1_1⟩, ⟨b2_0, b2_1⟩, ⟨b3_0, b3_1⟩, ⟨b4_0, b4_1⟩, h2, hx2⟩
      have hO2 := hO.ext hx2 hBw
      have hX2 := hX.trans hx2
      have hz2 := hX2.size
      go_wp2_with (at_builtin; refine wpList_append_lies _ rfl (.tmp 14) (.tmp 17) _ rfl w.heap.size 40 i0 _ 5 40 Tryz.underlying23 HI.out.1 HI.out.2.1 HI.out.2.2.1 HI.out.2.2.2 rfl (by omega) (.slice (some ⟨g, 0, none⟩) m cp) m (encBlock.flat xs) rfl (by have q := hO2.alloc (.cells (encBlock.enc (b0, b1, b2, b3, b4)).toArray 40); unfold SOwn at q; rw [HM.out] at q; exact q) ⟨w2.heap.size, 0, none⟩ 1 1 (encBlock.enc (b0, b1, b2, b3, b4)) rfl rfl (new_enc (E := encBlock) w2 (b0, b1, b2, b3, b4) _) (encBlock.one _) (by omega) (by simp only [maxLen]; omega) (by omega) (by simp; omega) _ rfl ?_; intro g5 cap5 w5 hown5 hgr5 hat5 hlt5)
      have hne : ∀ k, Value.ownBlock (.slice (some ⟨g, 0, none⟩) m cp) = some k → B < k := fun k hk => by have := SOwn.ge_base (hO2.alloc (.cells (encBlock.enc (b0, b1, b2, b3, b4)).toArray 40)) k hk; omega
      have hB5 := (h2.alloc (.cells (encBlock.enc (b0, b1, b2, b3, b4)).toArray 40)).far hgr5 hne
      have hE5 := (hX2.alloc (.cells (encBlock.enc (b0, b1, b2, b3, b4)).toArray 40)).far_grown hgr5 (SOwn.ge_base (hO2.alloc (.cells (encBlock.enc (b0, b1, b2, b3, b4)).toArray 40)))
      go_wp2_with fail
      go_roundw
      case rel => exact ⟨k - 1, xs ++ [(b0, b1, b2, b3, b4)], g5, cap5, m + 1, by go_num, rfl, by omega, by push_cast; omega, (by show _ = _; rw [List.length_append, HM.out]; rfl), SOwn.snoc (E := encBlock) (by rw [HM.out]; exact hown5), hB5.mono (by omega), hE5⟩
      case measure => simp [intOf]; omega
    · obtain rfl : k = 0 := by omega
      have hm5 : m ≤ 5 := by omega
      go_wp2_with fail
      refine (odd0_any B _ n _ hR (by omega) hn hn1).mono ?_; rintro e w3 ⟨b, rfl, h3, hx3⟩
      have hO3 := hO.ext hx3 hBw
      have hX3 := hX.trans hx3
      cases b
      · go_wp2_with fail
        go_ret
        exact ⟨xs, _, cp, (by rw [HM.out]; rfl), (by rw [HM.out]; omega), hO3, h3.mono (by omega), hX3⟩
      · go_wp2_with fail
        refine (pick_any B _ 2 _ h3 (by omega) (by omega) (by omega)).mono ?_; rintro e w4 ⟨j, rfl, j0, j1, h4, hx4⟩
        have hO4 := hO3.ext hx4 hBw
        have hX4 := hX3.trans hx4
        have hz4 := hX4.size
        by_cases c : j = 0
        · subst c
          go_wp2_with (at_make; refine wpList_make_structs _ encBlock (0, 0, 0, 0, 0) rfl _ _ 23 rfl 40 i0 _ Tryz.underlying23 HI.out.1 HI.out.2.1 HI.out.2.2.1 rfl .i64 .i64 6 rfl rfl (by rw [HI.out.2.2.2]; omega) (by omega) ?_)
          go_ret
          exact ⟨List.replicate 6 (0, 0, 0, 0, 0), _, 6, by simp, by simp, SOwn.of_blk (E := encBlock) (blk_new w4 _) hz4 (by simp) (by unfold maxLen; omega), (h4.alloc _).mono (by omega), hX4.alloc _⟩
        · have e0 : (j == 0) = false := by rw [beq_eq_false_iff_ne]; omega
          clear c
          go_wp2_with fail
          obtain ⟨hcp, _⟩ := hO4.cap
          rw [HM.out] at hcp
          by_cases hm0 : m = 0
          · subst hm0
            have HYL : Hid (([] : List VBlock).length = 0) := by show _ = _; rfl
            have hR_0 := h4.drw
            have hO_0 := hO4.drew
            have hX_0 := hX4.drw
            refine wp_region_held_drew (S := (fun _ => True)) (by kernel_rfl) (trivial) (fun hHeld => ?_)
            have hT_0 := id hHeld
            refine wpAnyH_take (i := 0) (oi := _) (v := ?_) rfl (by kernel_rfl) (by kernel_rfl) (by kernel_rfl) (fun _ _ _ h => h) (Or.inl ⟨by rfl, ?_⟩) (by assumption) ?_
            (rotate_left); (focus (intro wv hSw; (have qT := hSw);  go_simp; (try with_reducible rfl)))
            try simp only [Act.put, List.getElem_toArray, List.getElem_cons_succ, List.getElem_cons_zero, List.setIfInBounds_toArray, List.set_cons_zero, List.set_cons_succ]
            refine wpAnyH_take (i := 3) (oi := _) (v := ?_) rfl (by kernel_rfl) (by kernel_rfl) (by kernel_rfl) (fun _ _ _ h => h) (Or.inl ⟨by rfl, ?_⟩) (by assumption) ?_
            (rotate_left); (focus (intro wv hSw; (have qT := hSw);  go_simp; (try with_reducible rfl)))
            try simp only [Act.put, List.getElem_toArray, List.getElem_cons_succ, List.getElem_cons_zero, List.setIfInBounds_toArray, List.set_cons_zero, List.set_cons_succ]
            refine wpAnyH_take (i := 4) (oi := _) (v := ?_) rfl (by kernel_rfl) (by kernel_rfl) (by kernel_rfl) (fun _ _ _ h => h) (Or.inl ⟨by rfl, ?_⟩) (by assumption) ?_
            (rotate_left); (focus (intro wv hSw; (have qT := hSw);  go_simp; (try with_reducible rfl)))
            try simp only [Act.put, List.getElem_toArray, List.getElem_cons_succ, List.getElem_cons_zero, List.setIfInBounds_toArray, List.set_cons_zero, List.set_cons_succ]
            refine wpAnyH_take (i := 5) (oi := _) (v := ?_) rfl (by kernel_rfl) (by kernel_rfl) (by kernel_rfl) (fun _ _ _ h => h) (Or.inl ⟨by rfl, ?_⟩) (by assumption) ?_
            (rotate_left); (focus (intro wv hSw; (have qT := hSw);  go_simp; (try with_reducible rfl)))
            try simp only [Act.put, List.getElem_toArray, List.getElem_cons_succ, List.getElem_cons_zero, List.setIfInBounds_toArray, List.set_cons_zero, List.set_cons_succ]
            refine wpAnyH_take (i := 6) (oi := _) (v := ?_) rfl (by kernel_rfl) (by kernel_rfl) (by kernel_rfl) (fun _ _ _ h => h) (Or.inl ⟨by rfl, ?_⟩) (by assumption) ?_
            (rotate_left); (focus (intro wv hSw; (have qT := hSw);  go_simp; (try with_reducible rfl)))
            try simp only [Act.put, List.getElem_toArray, List.getElem_cons_succ, List.getElem_cons_zero, List.setIfInBounds_toArray, List.set_cons_zero, List.set_cons_succ]
            refine wpAnyH_take (i := 7) (oi := _) (v := ?_) rfl (by kernel_rfl) (by kernel_rfl) (by kernel_rfl) (fun _ _ _ h => h) (Or.inl ⟨by rfl, ?_⟩) (by assumption) ?_
            (rotate_left); (focus (intro wv hSw; (have qT := hSw);  go_simp; (try with_reducible rfl)))
            try simp only [Act.put, List.getElem_toArray, List.getElem_cons_succ, List.getElem_cons_zero, List.setIfInBounds_toArray, List.set_cons_zero, List.set_cons_succ]
            refine wpAnyH_ready (rs := [1]) (by kernel_rfl) (by simp) ?_
            refine AllReadyH.cons (o := _) rfl (fun K hK => ?_) AllReadyH.nil
            go_simp
            (go_at_call 126; refine (block_any B _ 1 _ hR_0 (by omega) (by omega) (by omega)).mono ?_; rintro e x0c ⟨c0, c1, c2, c3, c4, rfl, ⟨c0_0, c0_1⟩, ⟨c1_0, c1_1⟩, ⟨c2_0, c2_1⟩, ⟨c3_0, c3_1⟩, ⟨c4_0, c4_1⟩, hR_0c, hw_0c⟩)
            refine hK.out _ _ (trivial) (fun hHeld => ?_)
            clear hK K
            try simp only [Act.put, List.getElem_toArray, List.getElem_cons_succ, List.getElem_cons_zero, List.setIfInBounds_toArray, List.set_cons_zero, List.set_cons_succ]
            have hT_0c := id hHeld
            have hO_c := hO_0.ext hw_0c hBw
            have hX_c := hX_0.trans hw_0c
            have hzc := hX_c.size
            have hBc := hR_0c.lt
            refine wpAnyH_ready (rs := [2]) (by kernel_rfl) (by simp) ?_
            refine AllReadyH.cons (o := _) rfl (fun K hK => ?_) AllReadyH.nil
            go_simp
            refine hK.out _ _ trivial (fun hHeld => ?_)
            clear hK K
            try simp only [Act.put, List.getElem_toArray, List.getElem_cons_succ, List.getElem_cons_zero, List.setIfInBounds_toArray, List.set_cons_zero, List.set_cons_succ]
            have hL : SOwn encBlock (x0c.alloc (.cells (encBlock.enc (c0, c1, c2, c3, c4)).toArray 40)) w.heap.size 40 (some ⟨x0c.heap.size, 0, none⟩) 1 [(c0, c1, c2, c3, c4)] := SOwn.of_blk (E := encBlock) (xs := [(c0, c1, c2, c3, c4)]) (blk_new x0c (.cells (encBlock.enc (c0, c1, c2, c3, c4)).toArray 40)) hzc rfl (by unfold maxLen; omega)
            have hO_d := hO_c.alloc (.cells (encBlock.enc (c0, c1, c2, c3, c4)).toArray 40)
            have hz1 : w.heap.size ≤ (x0c.alloc (.cells (encBlock.enc (c0, c1, c2, c3, c4)).toArray 40)).heap.size := by simp; omega
            refine wpAnyH_ready (rs := [8]) (by kernel_rfl) (by simp) ?_
            refine AllReadyH.cons (o := _) rfl (fun K hK => ?_) AllReadyH.nil
            rw [if_pos (by kernel_rfl)]
            refine wp_append_own _ (.tmp 28) (.tmp 33) _ rfl w.heap.size 40 i0 _ 5 40 Tryz.underlying23 HI.out.1 HI.out.2.1 HI.out.2.2.1 HI.out.2.2.2 rfl (by omega) (.slice (some ⟨x0c.heap.size, 0, none⟩) 1 1) 1 (encBlock.flat [(c0, c1, c2, c3, c4)]) rfl hL ⟨g, 0, none⟩ 0 cp (encBlock.flat ([] : List VBlock)) rfl (by rw [encBlock.flat_len, HYL.out]; rfl) (by intro j u hu; simp [Enc.flat] at hu) (encBlock.flat_one _) (by simp only [maxLen]; omega) (by omega) hz1 ?_; intro v9 w9 hown9 hgr9 hnil9
            obtain ⟨A9, cap9, rfl⟩ := own_val hown9
            refine hK.out _ _ trivial (fun hHeld => ?_)
            clear hK K
            try simp only [Act.put, List.getElem_toArray, List.getElem_cons_succ, List.getElem_cons_zero, List.setIfInBounds_toArray, List.set_cons_zero, List.set_cons_succ]
            refine wpAnyH_take (i := 9) (oi := _) (v := ?_) rfl (by kernel_rfl) (by kernel_rfl) (by kernel_rfl) (fun _ _ _ h => h) (Or.inl ⟨by rfl, ?_⟩) (by assumption) ?_
            (rotate_left); (focus (intro wv hSw; go_simp; (try with_reducible rfl)))
            try simp only [Act.put, List.getElem_toArray, List.getElem_cons_succ, List.getElem_cons_zero, List.setIfInBounds_toArray, List.set_cons_zero, List.set_cons_succ]
            refine wpAnyH_done (by kernel_rfl) ?_ _
            go_wp2_with fail
            go_ret
            have hne : ∀ k, Value.ownBlock (.slice (some ⟨x0c.heap.size, 0, none⟩) 1 1) = some k → B < k := fun k hk => by simp [Value.ownBlock] at hk; omega
            exact ⟨(c0, c1, c2, c3, c4) :: ([] : List VBlock), A9, cap9, (by simp [HM.out]; try omega), (by simp [HM.out]; try omega), SOwn.of_raw (E := encBlock) hown9 (by rw [encBlock.flat_cons]; simp [Enc.flat]) (by simp [HM.out]; try omega), ((hR_0c.alloc (.cells (encBlock.enc (c0, c1, c2, c3, c4)).toArray 40)).far hgr9 hne).mono (by omega), (hX_c.alloc (.cells (encBlock.enc (c0, c1, c2, c3, c4)).toArray 40)).far_grown hgr9 (fun k hk => by simp [Value.ownBlock] at hk; omega)⟩
          · have hm1 : 1 ≤ m := by omega
            have hmi : (1 : Int) ≤ (m : Int) := by omega
            have hml : ¬ (m : Int) < 1 := by omega
            by_cases hc : cp = 1
            · obtain rfl : m = 1 := by omega
              have HYL : Hid (([] : List VBlock).length = 0) := by show _ = _; rfl
              have hR_0 := h4.drw
              have hO_0 := hO4.drew
              have hX_0 := hX4.drw
              refine wp_region_held_drew (S := (fun _ => True)) (by kernel_rfl) (trivial) (fun hHeld => ?_)
              have hT_0 := id hHeld
              refine wpAnyH_take (i := 0) (oi := _) (v := ?_) rfl (by kernel_rfl) (by kernel_rfl) (by kernel_rfl) (fun _ _ _ h => h) (Or.inl ⟨by rfl, ?_⟩) (by assumption) ?_
              (rotate_left); (focus (intro wv hSw; (have qT := hSw);  go_simp; (try with_reducible rfl)))
              try simp only [Act.put, List.getElem_toArray, List.getElem_cons_succ, List.getElem_cons_zero, List.setIfInBounds_toArray, List.set_cons_zero, List.set_cons_succ]
              refine wpAnyH_take (i := 3) (oi := _) (v := ?_) rfl (by kernel_rfl) (by kernel_rfl) (by kernel_rfl) (fun _ _ _ h => h) (Or.inl ⟨by rfl, ?_⟩) (by assumption) ?_
              (rotate_left); (focus (intro wv hSw; (have qT := hSw);  go_simp; (try with_reducible rfl)))
              try simp only [Act.put, List.getElem_toArray, List.getElem_cons_succ, List.getElem_cons_zero, List.setIfInBounds_toArray, List.set_cons_zero, List.set_cons_succ]
              refine wpAnyH_take (i := 4) (oi := _) (v := ?_) rfl (by kernel_rfl) (by kernel_rfl) (by kernel_rfl) (fun _ _ _ h => h) (Or.inl ⟨by rfl, ?_⟩) (by assumption) ?_
              (rotate_left); (focus (intro wv hSw; (have qT := hSw);  go_simp; (try with_reducible rfl)))
              try simp only [Act.put, List.getElem_toArray, List.getElem_cons_succ, List.getElem_cons_zero, List.setIfInBounds_toArray, List.set_cons_zero, List.set_cons_succ]
              refine wpAnyH_take (i := 5) (oi := _) (v := ?_) rfl (by kernel_rfl) (by kernel_rfl) (by kernel_rfl) (fun _ _ _ h => h) (Or.inl ⟨by rfl, ?_⟩) (by assumption) ?_
              (rotate_left); (focus (intro wv hSw; (have qT := hSw);  go_simp; (try with_reducible rfl)))
              try simp only [Act.put, List.getElem_toArray, List.getElem_cons_succ, List.getElem_cons_zero, List.setIfInBounds_toArray, List.set_cons_zero, List.set_cons_succ]
              refine wpAnyH_take (i := 6) (oi := _) (v := ?_) rfl (by kernel_rfl) (by kernel_rfl) (by kernel_rfl) (fun _ _ _ h => h) (Or.inl ⟨by rfl, ?_⟩) (by assumption) ?_
              (rotate_left); (focus (intro wv hSw; (have qT := hSw);  go_simp; (try with_reducible rfl)))
              try simp only [Act.put, List.getElem_toArray, List.getElem_cons_succ, List.getElem_cons_zero, List.setIfInBounds_toArray, List.set_cons_zero, List.set_cons_succ]
              refine wpAnyH_take (i := 7) (oi := _) (v := ?_) rfl (by kernel_rfl) (by kernel_rfl) (by kernel_rfl) (fun _ _ _ h => h) (Or.inl ⟨by rfl, ?_⟩) (by assumption) ?_
              (rotate_left); (focus (intro wv hSw; (have qT := hSw);  go_simp; (try with_reducible rfl)))
              try simp only [Act.put, List.getElem_toArray, List.getElem_cons_succ, List.getElem_cons_zero, List.setIfInBounds_toArray, List.set_cons_zero, List.set_cons_succ]
              refine wpAnyH_ready (rs := [1]) (by kernel_rfl) (by simp) ?_
              refine AllReadyH.cons (o := _) rfl (fun K hK => ?_) AllReadyH.nil
              go_simp
              (go_at_call 126; refine (block_any B _ 1 _ hR_0 (by omega) (by omega) (by omega)).mono ?_; rintro e x0c ⟨c0, c1, c2, c3, c4, rfl, ⟨c0_0, c0_1⟩, ⟨c1_0, c1_1⟩, ⟨c2_0, c2_1⟩, ⟨c3_0, c3_1⟩, ⟨c4_0, c4_1⟩, hR_0c, hw_0c⟩)
              refine hK.out _ _ (trivial) (fun hHeld => ?_)
              clear hK K
              try simp only [Act.put, List.getElem_toArray, List.getElem_cons_succ, List.getElem_cons_zero, List.setIfInBounds_toArray, List.set_cons_zero, List.set_cons_succ]
              have hT_0c := id hHeld
              have hO_c := hO_0.ext hw_0c hBw
              have hX_c := hX_0.trans hw_0c
              have hzc := hX_c.size
              have hBc := hR_0c.lt
              refine wpAnyH_ready (rs := [2]) (by kernel_rfl) (by simp) ?_
              refine AllReadyH.cons (o := _) rfl (fun K hK => ?_) AllReadyH.nil
              go_simp
              refine hK.out _ _ trivial (fun hHeld => ?_)
              clear hK K
              try simp only [Act.put, List.getElem_toArray, List.getElem_cons_succ, List.getElem_cons_zero, List.setIfInBounds_toArray, List.set_cons_zero, List.set_cons_succ]
              have hL : SOwn encBlock (x0c.alloc (.cells (encBlock.enc (c0, c1, c2, c3, c4)).toArray 40)) w.heap.size 40 (some ⟨x0c.heap.size, 0, none⟩) 1 [(c0, c1, c2, c3, c4)] := SOwn.of_blk (E := encBlock) (xs := [(c0, c1, c2, c3, c4)]) (blk_new x0c (.cells (encBlock.enc (c0, c1, c2, c3, c4)).toArray 40)) hzc rfl (by unfold maxLen; omega)
              have hO_d := hO_c.alloc (.cells (encBlock.enc (c0, c1, c2, c3, c4)).toArray 40)
              have hz1 : w.heap.size ≤ (x0c.alloc (.cells (encBlock.enc (c0, c1, c2, c3, c4)).toArray 40)).heap.size := by simp; omega
              refine wpAnyH_ready (rs := [8]) (by kernel_rfl) (by simp) ?_
              refine AllReadyH.cons (o := _) rfl (fun K hK => ?_) AllReadyH.nil
              rw [if_pos (by kernel_rfl)]
              refine wp_append_own _ (.tmp 28) (.tmp 33) _ rfl w.heap.size 40 i0 _ 5 40 Tryz.underlying23 HI.out.1 HI.out.2.1 HI.out.2.2.1 HI.out.2.2.2 rfl (by omega) (.slice (some ⟨x0c.heap.size, 0, none⟩) 1 1) 1 (encBlock.flat [(c0, c1, c2, c3, c4)]) rfl hL ⟨g, 0, none⟩ 0 0 (encBlock.flat ([] : List VBlock)) rfl (by rw [encBlock.flat_len, HYL.out]; rfl) (by intro j u hu; simp [Enc.flat] at hu) (encBlock.flat_one _) (by simp only [maxLen]; omega) (by omega) hz1 ?_; intro v9 w9 hown9 hgr9 hnil9
              obtain ⟨A9, cap9, rfl⟩ := own_val hown9
              refine hK.out _ _ trivial (fun hHeld => ?_)
              clear hK K
              try simp only [Act.put, List.getElem_toArray, List.getElem_cons_succ, List.getElem_cons_zero, List.setIfInBounds_toArray, List.set_cons_zero, List.set_cons_succ]
              refine wpAnyH_take (i := 9) (oi := _) (v := ?_) rfl (by kernel_rfl) (by kernel_rfl) (by kernel_rfl) (fun _ _ _ h => h) (Or.inl ⟨by rfl, ?_⟩) (by assumption) ?_
              (rotate_left); (focus (intro wv hSw; go_simp; (try with_reducible rfl)))
              try simp only [Act.put, List.getElem_toArray, List.getElem_cons_succ, List.getElem_cons_zero, List.setIfInBounds_toArray, List.set_cons_zero, List.set_cons_succ]
              refine wpAnyH_done (by kernel_rfl) ?_ _
              go_wp2_with fail
              go_ret
              have hne : ∀ k, Value.ownBlock (.slice (some ⟨x0c.heap.size, 0, none⟩) 1 1) = some k → B < k := fun k hk => by simp [Value.ownBlock] at hk; omega
              exact ⟨(c0, c1, c2, c3, c4) :: ([] : List VBlock), A9, cap9, (by simp [HM.out]; try omega), (by simp [HM.out]; try omega), SOwn.of_raw (E := encBlock) hown9 (by rw [encBlock.flat_cons]; simp [Enc.flat]) (by simp [HM.out]; try omega), ((hR_0c.alloc (.cells (encBlock.enc (c0, c1, c2, c3, c4)).toArray 40)).far hgr9 hne).mono (by omega), (hX_c.alloc (.cells (encBlock.enc (c0, c1, c2, c3, c4)).toArray 40)).far_grown hgr9 (fun k hk => by simp [Value.ownBlock] at hk; omega)⟩
            · have HYL : Hid ((xs.drop 1).length = m - 1) := by show _ = _; rw [List.length_drop, HM.out]
              have hR_0 := h4.drw
              have hO_0 := hO4.drew
              have hX_0 := hX4.drw
              refine wp_region_held_drew (S := (fun _ => True)) (by kernel_rfl) (trivial) (fun hHeld => ?_)
              have hT_0 := id hHeld
              refine wpAnyH_take (i := 0) (oi := _) (v := ?_) rfl (by kernel_rfl) (by kernel_rfl) (by kernel_rfl) (fun _ _ _ h => h) (Or.inl ⟨by rfl, ?_⟩) (by assumption) ?_
              (rotate_left); (focus (intro wv hSw; (have qT := hSw);  go_simp; (try with_reducible rfl)))
              try simp only [Act.put, List.getElem_toArray, List.getElem_cons_succ, List.getElem_cons_zero, List.setIfInBounds_toArray, List.set_cons_zero, List.set_cons_succ]
              refine wpAnyH_take (i := 3) (oi := _) (v := ?_) rfl (by kernel_rfl) (by kernel_rfl) (by kernel_rfl) (fun _ _ _ h => h) (Or.inl ⟨by rfl, ?_⟩) (by assumption) ?_
              (rotate_left); (focus (intro wv hSw; (have qT := hSw);  go_simp; (try with_reducible rfl)))
              try simp only [Act.put, List.getElem_toArray, List.getElem_cons_succ, List.getElem_cons_zero, List.setIfInBounds_toArray, List.set_cons_zero, List.set_cons_succ]
              refine wpAnyH_take (i := 4) (oi := _) (v := ?_) rfl (by kernel_rfl) (by kernel_rfl) (by kernel_rfl) (fun _ _ _ h => h) (Or.inl ⟨by rfl, ?_⟩) (by assumption) ?_
              (rotate_left); (focus (intro wv hSw; (have qT := hSw);  go_simp; (try with_reducible rfl)))
              try simp only [Act.put, List.getElem_toArray, List.getElem_cons_succ, List.getElem_cons_zero, List.setIfInBounds_toArray, List.set_cons_zero, List.set_cons_succ]
              refine wpAnyH_take (i := 5) (oi := _) (v := ?_) rfl (by kernel_rfl) (by kernel_rfl) (by kernel_rfl) (fun _ _ _ h => h) (Or.inl ⟨by rfl, ?_⟩) (by assumption) ?_
              (rotate_left); (focus (intro wv hSw; (have qT := hSw);  go_simp; (try with_reducible rfl)))
              try simp only [Act.put, List.getElem_toArray, List.getElem_cons_succ, List.getElem_cons_zero, List.setIfInBounds_toArray, List.set_cons_zero, List.set_cons_succ]
              refine wpAnyH_take (i := 6) (oi := _) (v := ?_) rfl (by kernel_rfl) (by kernel_rfl) (by kernel_rfl) (fun _ _ _ h => h) (Or.inl ⟨by rfl, ?_⟩) (by assumption) ?_
              (rotate_left); (focus (intro wv hSw; (have qT := hSw);  go_simp; (try with_reducible rfl)))
              try simp only [Act.put, List.getElem_toArray, List.getElem_cons_succ, List.getElem_cons_zero, List.setIfInBounds_toArray, List.set_cons_zero, List.set_cons_succ]
              refine wpAnyH_take (i := 7) (oi := _) (v := ?_) rfl (by kernel_rfl) (by kernel_rfl) (by kernel_rfl) (fun _ _ _ h => h) (Or.inl ⟨by rfl, ?_⟩) (by assumption) ?_
              (rotate_left); (focus (intro wv hSw; (have qT := hSw);  go_simp; (try with_reducible rfl)))
              try simp only [Act.put, List.getElem_toArray, List.getElem_cons_succ, List.getElem_cons_zero, List.setIfInBounds_toArray, List.set_cons_zero, List.set_cons_succ]
              refine wpAnyH_ready (rs := [1]) (by kernel_rfl) (by simp) ?_
              refine AllReadyH.cons (o := _) rfl (fun K hK => ?_) AllReadyH.nil
              go_simp
              (go_at_call 126; refine (block_any B _ 1 _ hR_0 (by omega) (by omega) (by omega)).mono ?_; rintro e x0c ⟨c0, c1, c2, c3, c4, rfl, ⟨c0_0, c0_1⟩, ⟨c1_0, c1_1⟩, ⟨c2_0, c2_1⟩, ⟨c3_0, c3_1⟩, ⟨c4_0, c4_1⟩, hR_0c, hw_0c⟩)
              refine hK.out _ _ (trivial) (fun hHeld => ?_)
              clear hK K
              try simp only [Act.put, List.getElem_toArray, List.getElem_cons_succ, List.getElem_cons_zero, List.setIfInBounds_toArray, List.set_cons_zero, List.set_cons_succ]
              have hT_0c := id hHeld
              have hO_c := hO_0.ext hw_0c hBw
              have hX_c := hX_0.trans hw_0c
              have hzc := hX_c.size
              have hBc := hR_0c.lt
              refine wpAnyH_ready (rs := [2]) (by kernel_rfl) (by simp) ?_
              refine AllReadyH.cons (o := _) rfl (fun K hK => ?_) AllReadyH.nil
              go_simp
              refine hK.out _ _ trivial (fun hHeld => ?_)
              clear hK K
              try simp only [Act.put, List.getElem_toArray, List.getElem_cons_succ, List.getElem_cons_zero, List.setIfInBounds_toArray, List.set_cons_zero, List.set_cons_succ]
              have hL : SOwn encBlock (x0c.alloc (.cells (encBlock.enc (c0, c1, c2, c3, c4)).toArray 40)) w.heap.size 40 (some ⟨x0c.heap.size, 0, none⟩) 1 [(c0, c1, c2, c3, c4)] := SOwn.of_blk (E := encBlock) (xs := [(c0, c1, c2, c3, c4)]) (blk_new x0c (.cells (encBlock.enc (c0, c1, c2, c3, c4)).toArray 40)) hzc rfl (by unfold maxLen; omega)
              have hO_d := hO_c.alloc (.cells (encBlock.enc (c0, c1, c2, c3, c4)).toArray 40)
              have hz1 : w.heap.size ≤ (x0c.alloc (.cells (encBlock.enc (c0, c1, c2, c3, c4)).toArray 40)).heap.size := by simp; omega
              refine wpAnyH_ready (rs := [8]) (by kernel_rfl) (by simp) ?_
              refine AllReadyH.cons (o := _) rfl (fun K hK => ?_) AllReadyH.nil
              rw [if_pos (by kernel_rfl)]
              refine wp_append_own _ (.tmp 28) (.tmp 33) _ rfl w.heap.size 40 i0 _ 5 40 Tryz.underlying23 HI.out.1 HI.out.2.1 HI.out.2.2.1 HI.out.2.2.2 rfl (by omega) (.slice (some ⟨x0c.heap.size, 0, none⟩) 1 1) 1 (encBlock.flat [(c0, c1, c2, c3, c4)]) rfl hL ⟨g, 5, none⟩ (m - 1) (cp - 1) (encBlock.flat (xs.drop 1)) rfl (by rw [encBlock.flat_len, HYL.out]; rfl) (SRow.news (SOwn.tail hO_d)) (encBlock.flat_one _) (by simp only [maxLen]; omega) (by omega) hz1 ?_; intro v9 w9 hown9 hgr9 hnil9
              obtain ⟨A9, cap9, rfl⟩ := own_val hown9
              refine hK.out _ _ trivial (fun hHeld => ?_)
              clear hK K
              try simp only [Act.put, List.getElem_toArray, List.getElem_cons_succ, List.getElem_cons_zero, List.setIfInBounds_toArray, List.set_cons_zero, List.set_cons_succ]
              refine wpAnyH_take (i := 9) (oi := _) (v := ?_) rfl (by kernel_rfl) (by kernel_rfl) (by kernel_rfl) (fun _ _ _ h => h) (Or.inl ⟨by rfl, ?_⟩) (by assumption) ?_
              (rotate_left); (focus (intro wv hSw; go_simp; (try with_reducible rfl)))
              try simp only [Act.put, List.getElem_toArray, List.getElem_cons_succ, List.getElem_cons_zero, List.setIfInBounds_toArray, List.set_cons_zero, List.set_cons_succ]
              refine wpAnyH_done (by kernel_rfl) ?_ _
              go_wp2_with fail
              go_ret
              have hne : ∀ k, Value.ownBlock (.slice (some ⟨x0c.heap.size, 0, none⟩) 1 1) = some k → B < k := fun k hk => by simp [Value.ownBlock] at hk; omega
              exact ⟨(c0, c1, c2, c3, c4) :: (xs.drop 1), A9, cap9, (by simp [HM.out]; try omega), (by simp [HM.out]; try omega), SOwn.of_raw (E := encBlock) hown9 (by rw [encBlock.flat_cons]; simp [Enc.flat]) (by simp [HM.out]; try omega), ((hR_0c.alloc (.cells (encBlock.enc (c0, c1, c2, c3, c4)).toArray 40)).far hgr9 hne).mono (by omega), (hX_c.alloc (.cells (encBlock.enc (c0, c1, c2, c3, c4)).toArray 40)).far_grown hgr9 (fun k hk => by simp [Value.ownBlock] at hk; omega)⟩
end Go.Proofs.YtbklgpghonigjaaGreat
