/- Places, blocks and directions that are drawn. -/
import Derived.Test.YtfgaggdiepielaaRdU
import Derived.Test.YtfgaggdiepielaaVh
import Derived.Test.YtfgaggdiepielaaVm
namespace Go.Proofs.Ytfgaggdiepielaa
open Go Go.ChangeShapes Go.WideShapes Go.ChangeAt Go.RowKit
set_option linter.unusedSimpArgs false
set_option linter.unusedVariables false

theorem blk2_at0 {w : World} {C : Nat} {x0 x1 v : Value} {t : TypeId} (h : w.heap[C]? = some (.cells #[x0, x1] t (0, 0))) : (w.setCell ⟨C, 0, none⟩ v).heap[C]? = some (.cells #[v, x1] t (0, 0)) := by
  have hlt := blk_lt h
  have h' : w.heap[C] = .cells #[x0, x1] t (0, 0) := by simpa [Array.getElem?_eq_getElem hlt] using h
  show (w.heap.modify C _)[C]? = _
  rw [Array.getElem?_eq_getElem (by simpa using hlt), Array.getElem_modify_self, h']
  rfl
theorem blk2_at1 {w : World} {C : Nat} {x0 x1 v : Value} {t : TypeId} (h : w.heap[C]? = some (.cells #[x0, x1] t (0, 0))) : (w.setCell ⟨C, 1, none⟩ v).heap[C]? = some (.cells #[x0, v] t (0, 0)) := by
  have hlt := blk_lt h
  have h' : w.heap[C] = .cells #[x0, x1] t (0, 0) := by simpa [Array.getElem?_eq_getElem hlt] using h
  show (w.heap.modify C _)[C]? = _
  rw [Array.getElem?_eq_getElem (by simpa using hlt), Array.getElem_modify_self, h']
  rfl
theorem blk3_at0 {w : World} {C : Nat} {x0 x1 x2 v : Value} {t : TypeId} (h : w.heap[C]? = some (.cells #[x0, x1, x2] t (0, 0))) : (w.setCell ⟨C, 0, none⟩ v).heap[C]? = some (.cells #[v, x1, x2] t (0, 0)) := by
  have hlt := blk_lt h
  have h' : w.heap[C] = .cells #[x0, x1, x2] t (0, 0) := by simpa [Array.getElem?_eq_getElem hlt] using h
  show (w.heap.modify C _)[C]? = _
  rw [Array.getElem?_eq_getElem (by simpa using hlt), Array.getElem_modify_self, h']
  rfl
theorem blk3_at1 {w : World} {C : Nat} {x0 x1 x2 v : Value} {t : TypeId} (h : w.heap[C]? = some (.cells #[x0, x1, x2] t (0, 0))) : (w.setCell ⟨C, 1, none⟩ v).heap[C]? = some (.cells #[x0, v, x2] t (0, 0)) := by
  have hlt := blk_lt h
  have h' : w.heap[C] = .cells #[x0, x1, x2] t (0, 0) := by simpa [Array.getElem?_eq_getElem hlt] using h
  show (w.heap.modify C _)[C]? = _
  rw [Array.getElem?_eq_getElem (by simpa using hlt), Array.getElem_modify_self, h']
  rfl
theorem blk3_at2 {w : World} {C : Nat} {x0 x1 x2 v : Value} {t : TypeId} (h : w.heap[C]? = some (.cells #[x0, x1, x2] t (0, 0))) : (w.setCell ⟨C, 2, none⟩ v).heap[C]? = some (.cells #[x0, x1, v] t (0, 0)) := by
  have hlt := blk_lt h
  have h' : w.heap[C] = .cells #[x0, x1, x2] t (0, 0) := by simpa [Array.getElem?_eq_getElem hlt] using h
  show (w.heap.modify C _)[C]? = _
  rw [Array.getElem?_eq_getElem (by simpa using hlt), Array.getElem_modify_self, h']
  rfl
theorem blk5_at0 {w : World} {C : Nat} {x0 x1 x2 x3 x4 v : Value} {t : TypeId} (h : w.heap[C]? = some (.cells #[x0, x1, x2, x3, x4] t (0, 0))) : (w.setCell ⟨C, 0, none⟩ v).heap[C]? = some (.cells #[v, x1, x2, x3, x4] t (0, 0)) := by
  have hlt := blk_lt h
  have h' : w.heap[C] = .cells #[x0, x1, x2, x3, x4] t (0, 0) := by simpa [Array.getElem?_eq_getElem hlt] using h
  show (w.heap.modify C _)[C]? = _
  rw [Array.getElem?_eq_getElem (by simpa using hlt), Array.getElem_modify_self, h']
  rfl
theorem blk5_at1 {w : World} {C : Nat} {x0 x1 x2 x3 x4 v : Value} {t : TypeId} (h : w.heap[C]? = some (.cells #[x0, x1, x2, x3, x4] t (0, 0))) : (w.setCell ⟨C, 1, none⟩ v).heap[C]? = some (.cells #[x0, v, x2, x3, x4] t (0, 0)) := by
  have hlt := blk_lt h
  have h' : w.heap[C] = .cells #[x0, x1, x2, x3, x4] t (0, 0) := by simpa [Array.getElem?_eq_getElem hlt] using h
  show (w.heap.modify C _)[C]? = _
  rw [Array.getElem?_eq_getElem (by simpa using hlt), Array.getElem_modify_self, h']
  rfl
theorem blk5_at2 {w : World} {C : Nat} {x0 x1 x2 x3 x4 v : Value} {t : TypeId} (h : w.heap[C]? = some (.cells #[x0, x1, x2, x3, x4] t (0, 0))) : (w.setCell ⟨C, 2, none⟩ v).heap[C]? = some (.cells #[x0, x1, v, x3, x4] t (0, 0)) := by
  have hlt := blk_lt h
  have h' : w.heap[C] = .cells #[x0, x1, x2, x3, x4] t (0, 0) := by simpa [Array.getElem?_eq_getElem hlt] using h
  show (w.heap.modify C _)[C]? = _
  rw [Array.getElem?_eq_getElem (by simpa using hlt), Array.getElem_modify_self, h']
  rfl
theorem blk5_at3 {w : World} {C : Nat} {x0 x1 x2 x3 x4 v : Value} {t : TypeId} (h : w.heap[C]? = some (.cells #[x0, x1, x2, x3, x4] t (0, 0))) : (w.setCell ⟨C, 3, none⟩ v).heap[C]? = some (.cells #[x0, x1, x2, v, x4] t (0, 0)) := by
  have hlt := blk_lt h
  have h' : w.heap[C] = .cells #[x0, x1, x2, x3, x4] t (0, 0) := by simpa [Array.getElem?_eq_getElem hlt] using h
  show (w.heap.modify C _)[C]? = _
  rw [Array.getElem?_eq_getElem (by simpa using hlt), Array.getElem_modify_self, h']
  rfl
theorem blk5_at4 {w : World} {C : Nat} {x0 x1 x2 x3 x4 v : Value} {t : TypeId} (h : w.heap[C]? = some (.cells #[x0, x1, x2, x3, x4] t (0, 0))) : (w.setCell ⟨C, 4, none⟩ v).heap[C]? = some (.cells #[x0, x1, x2, x3, v] t (0, 0)) := by
  have hlt := blk_lt h
  have h' : w.heap[C] = .cells #[x0, x1, x2, x3, x4] t (0, 0) := by simpa [Array.getElem?_eq_getElem hlt] using h
  show (w.heap.modify C _)[C]? = _
  rw [Array.getElem?_eq_getElem (by simpa using hlt), Array.getElem_modify_self, h']
  rfl
def PlaceIs (B : Nat) (u : Int) (w : World) (e : Ending) (w' : World) : Prop :=
  ∃ a b : Int, e = .returned (.agg #[.int .i64 a, .int .i64 b]) ∧ (-100 ≤ a ∧ a ≤ 100) ∧ (-100 ≤ b ∧ b ≤ 100) ∧ RdU B u w' ∧ Ext B w w'
def BlockIs (B : Nat) (u : Int) (w : World) (e : Ending) (w' : World) : Prop :=
  ∃ a b c d f : Int, e = .returned (.agg #[.int .i64 a, .int .i64 b, .int .i64 c, .int .i64 d, .int .i64 f]) ∧ (-100 ≤ a ∧ a ≤ 100) ∧ (-100 ≤ b ∧ b ≤ 100) ∧ (-100 ≤ c ∧ c ≤ 100) ∧ (-100 ≤ d ∧ d ≤ 100) ∧ (-100 ≤ f ∧ f ≤ 100) ∧ RdU B u w' ∧ Ext B w w'
def RayIs (B : Nat) (u : Int) (w : World) (e : Ending) (w' : World) : Prop :=
  ∃ a b c : Int, e = .returned (.agg #[.int .i64 a, .int .i64 b, .int .i64 c]) ∧ (-100 ≤ a ∧ a ≤ 100) ∧ (-100 ≤ b ∧ b ≤ 100) ∧ (-100 ≤ c ∧ c ≤ 100) ∧ RdU B u w' ∧ Ext B w w'
set_option maxRecDepth 100000 in
set_option maxHeartbeats 8000000 in
theorem ray_any (B : Nat) (u n : Int) (w : World) (h : RdU B u w) (hu : u ≤ 800000) (hn : 0 ≤ n) (hn1 : n ≤ 1000000) : Calls Try.prog 44 #[.pointer (some ⟨B, 0, none⟩), .int .i64 n] w (RayIs B (u + 7) w) := by
  have hBw := h.lt
  go_enter Try.func44, Try.ntmps44
  go_wp2_with fail
  refine (pick_any B (u) 21 _ (h.alloc _) (by omega) (by omega) (by omega)).mono ?_; rintro e w1 ⟨a1, rfl, a10, a11, hw1, hxw1⟩
  go_wp2_with fail
  refine (pick_any B (u + 1) 21 _ hw1 (by omega) (by omega) (by omega)).mono ?_; rintro e w2 ⟨a2, rfl, a20, a21, hw2, hxw2⟩
  go_wp2_with fail
  refine (pick_any B (u + 1 + 1) 10 _ hw2 (by omega) (by omega) (by omega)).mono ?_; rintro e w3 ⟨a3, rfl, a30, a31, hw3, hxw3⟩
  go_wp2_with fail
  have hB3 := hw3.lt
  refine (pick_any B (u + 1 + 1 + 1) 6 _ (hw3.alloc _) (by omega) (by omega) (by omega)).mono ?_; rintro e w4 ⟨a4, rfl, a40, a41, hw4, hxw4⟩
  have hR2 := blk_ext (blk_ext (blk_ext (blk_new w (.cells #[.int .i64 0, .int .i64 0, .int .i64 0] 29)) hxw1 (by omega)) hxw2 (by omega)) hxw3 (by omega)
  have hRC := blk_lt hR2
  have hR := blk_ext (blk_old hR2 _) hxw4 (by omega)
  have hC := blk_ext (blk_new w3 (.cells #[.int .i64 (a1 - 10), .int .i64 (a2 - 10), .int .i64 (1 + a3)] 29)) hxw4 (by omega)
  have hE : Ext B w w4 := ((((((Ext.refl B w).alloc _).trans hxw1).trans hxw2).trans hxw3).alloc _).trans hxw4
  clear hxw1 hxw2 hxw3 hxw4 hR2 hw1 hw2 hw3 hB3
  generalize w3.heap.size = C at *
  have hB4 := hw4.lt
  obtain ⟨c0, c1, c2, cf0, cf1, cf2, zC⟩ := blk3 hC
  by_cases k0 : a4 = 0
  · subst k0
    go_wp2_with fail
    have hCx := (blk3_at0 (v := .int .i64 0) hC)
    have hRx := (blk_setOther (i := 0) hR (show w.heap.size ≠ C by omega) (.int .i64 0))
    have hx := ((hw4.mono (u' := u + 4) (by omega)).setOther (show B < C by omega) (i := 0) (.int .i64 0))
    have hEx := (hE.setNew (show w.heap.size ≤ C by omega) 0 (.int .i64 0))
    clear hC hR hE hw4 c0 c1 c2 cf0 cf1 cf2
    obtain ⟨c0, c1, c2, cf0, cf1, cf2, zC⟩ := blk3 hCx
    refine (odd0_any B (u + 4) n _ hx (by omega) hn hn1).mono ?_; rintro e w5 ⟨b, rfl, hw5, hxw5⟩
    have hC5 := blk_ext hCx hxw5 (by omega)
    have hR5 := blk_ext hRx hxw5 (by omega)
    have hE5 := hEx.trans hxw5
    clear hCx hRx hEx hxw5
    cases b
    · obtain ⟨c0, c1, c2, cf0, cf1, cf2, zC⟩ := blk3 hC5
      obtain ⟨r0, r1, r2, s0, s1, s2, zR⟩ := blk3 hR5
      go_wp2_with fail
      exact bodyPost_ret (v := .agg #[.int .i64 0, .int .i64 (a2 - 10), .int .i64 (1 + a3)]) (by simp [results, Try.results44, go_sem, r0, r1, r2]) rfl ⟨_, _, _, rfl, ⟨by omega, by omega⟩, ⟨by omega, by omega⟩, ⟨by omega, by omega⟩, ((((hw5.mono (u' := u + 7) (by omega)).setOther (by omega) _).setOther (by omega) _).setOther (by omega) _), (((hE5.setNew (by omega) _ _).setNew (by omega) _ _).setNew (by omega) _ _)⟩
    · go_wp2_with fail
      have hz5 := hw5.lt
      have hc5 := blk_lt hC5
      refine (pick_any B (u + 4 + 1) 3 _ (hw5.alloc _) (by omega) (by omega) (by omega)).mono ?_; rintro e w6 ⟨a6, rfl, a60, a61, hw6, hxw6⟩
      have hC6 := blk_ext (blk_old hC5 _) hxw6 (by omega)
      have hR6 := blk_ext (blk_old hR5 _) hxw6 (by omega)
      have hE6 := (hE5.alloc _).trans hxw6
      obtain ⟨v, hv, v0, v1⟩ := blk_int_at [0, -1, 21] (blk_ext (blk_new w5 _) hxw6 (by omega)) (-1) 21 (by decide) a6.toNat (by simp; omega)
      have hC7 := blk3_at2 (v := .int .i64 v) hC6
      have hR7 := blk_setOther (i := 2) hR6 (show w.heap.size ≠ C by omega) (.int .i64 v)
      have hE7 := hE6.setNew (show w.heap.size ≤ C by omega) 2 (.int .i64 v)
      have h7 := hw6.setOther (show B < C by omega) (i := 2) (.int .i64 v)
      obtain ⟨c0, c1, c2, cf0, cf1, cf2, zC⟩ := blk3 hC6
      obtain ⟨d0, d1, d2, df0, df1, df2, zC⟩ := blk3 hC7
      obtain ⟨r0, r1, r2, s0, s1, s2, zR⟩ := blk3 hR7
      go_wp2_with fail
      exact bodyPost_ret (v := .agg #[.int .i64 0, .int .i64 (a2 - 10), .int .i64 v]) (by simp [results, Try.results44, go_sem, r0, r1, r2]) rfl ⟨_, _, _, rfl, ⟨by omega, by omega⟩, ⟨by omega, by omega⟩, ⟨by omega, by omega⟩, ((((h7.mono (u' := u + 7) (by omega)).setOther (by omega) _).setOther (by omega) _).setOther (by omega) _), (((hE7.setNew (by omega) _ _).setNew (by omega) _ _).setNew (by omega) _ _)⟩
  · have e0 : (a4 == 0) = false := by rw [beq_eq_false_iff_ne]; omega
    by_cases k1 : a4 = 1
    · subst k1
      clear k0 e0
      go_wp2_with fail
      have hCx := (blk3_at1 (v := .int .i64 0) hC)
      have hRx := (blk_setOther (i := 1) hR (show w.heap.size ≠ C by omega) (.int .i64 0))
      have hx := ((hw4.mono (u' := u + 4) (by omega)).setOther (show B < C by omega) (i := 1) (.int .i64 0))
      have hEx := (hE.setNew (show w.heap.size ≤ C by omega) 1 (.int .i64 0))
      clear hC hR hE hw4 c0 c1 c2 cf0 cf1 cf2
      obtain ⟨c0, c1, c2, cf0, cf1, cf2, zC⟩ := blk3 hCx
      refine (odd0_any B (u + 4) n _ hx (by omega) hn hn1).mono ?_; rintro e w5 ⟨b, rfl, hw5, hxw5⟩
      have hC5 := blk_ext hCx hxw5 (by omega)
      have hR5 := blk_ext hRx hxw5 (by omega)
      have hE5 := hEx.trans hxw5
      clear hCx hRx hEx hxw5
      cases b
      · obtain ⟨c0, c1, c2, cf0, cf1, cf2, zC⟩ := blk3 hC5
        obtain ⟨r0, r1, r2, s0, s1, s2, zR⟩ := blk3 hR5
        go_wp2_with fail
        exact bodyPost_ret (v := .agg #[.int .i64 (a1 - 10), .int .i64 0, .int .i64 (1 + a3)]) (by simp [results, Try.results44, go_sem, r0, r1, r2]) rfl ⟨_, _, _, rfl, ⟨by omega, by omega⟩, ⟨by omega, by omega⟩, ⟨by omega, by omega⟩, ((((hw5.mono (u' := u + 7) (by omega)).setOther (by omega) _).setOther (by omega) _).setOther (by omega) _), (((hE5.setNew (by omega) _ _).setNew (by omega) _ _).setNew (by omega) _ _)⟩
      · go_wp2_with fail
        have hz5 := hw5.lt
        have hc5 := blk_lt hC5
        refine (pick_any B (u + 4 + 1) 3 _ (hw5.alloc _) (by omega) (by omega) (by omega)).mono ?_; rintro e w6 ⟨a6, rfl, a60, a61, hw6, hxw6⟩
        have hC6 := blk_ext (blk_old hC5 _) hxw6 (by omega)
        have hR6 := blk_ext (blk_old hR5 _) hxw6 (by omega)
        have hE6 := (hE5.alloc _).trans hxw6
        obtain ⟨v, hv, v0, v1⟩ := blk_int_at [0, -1, 21] (blk_ext (blk_new w5 _) hxw6 (by omega)) (-1) 21 (by decide) a6.toNat (by simp; omega)
        have hC7 := blk3_at2 (v := .int .i64 v) hC6
        have hR7 := blk_setOther (i := 2) hR6 (show w.heap.size ≠ C by omega) (.int .i64 v)
        have hE7 := hE6.setNew (show w.heap.size ≤ C by omega) 2 (.int .i64 v)
        have h7 := hw6.setOther (show B < C by omega) (i := 2) (.int .i64 v)
        obtain ⟨c0, c1, c2, cf0, cf1, cf2, zC⟩ := blk3 hC6
        obtain ⟨d0, d1, d2, df0, df1, df2, zC⟩ := blk3 hC7
        obtain ⟨r0, r1, r2, s0, s1, s2, zR⟩ := blk3 hR7
        go_wp2_with fail
        exact bodyPost_ret (v := .agg #[.int .i64 (a1 - 10), .int .i64 0, .int .i64 v]) (by simp [results, Try.results44, go_sem, r0, r1, r2]) rfl ⟨_, _, _, rfl, ⟨by omega, by omega⟩, ⟨by omega, by omega⟩, ⟨by omega, by omega⟩, ((((h7.mono (u' := u + 7) (by omega)).setOther (by omega) _).setOther (by omega) _).setOther (by omega) _), (((hE7.setNew (by omega) _ _).setNew (by omega) _ _).setNew (by omega) _ _)⟩
    · have e1 : (a4 == 1) = false := by rw [beq_eq_false_iff_ne]; omega
      clear k0 k1
      go_wp2_with fail
      have hCx := hC
      have hRx := hR
      have hx := hw4.mono (u' := u + 4) (by omega)
      have hEx := hE
      clear hC hR hE hw4 c0 c1 c2 cf0 cf1 cf2
      obtain ⟨c0, c1, c2, cf0, cf1, cf2, zC⟩ := blk3 hCx
      refine (odd0_any B (u + 4) n _ hx (by omega) hn hn1).mono ?_; rintro e w5 ⟨b, rfl, hw5, hxw5⟩
      have hC5 := blk_ext hCx hxw5 (by omega)
      have hR5 := blk_ext hRx hxw5 (by omega)
      have hE5 := hEx.trans hxw5
      clear hCx hRx hEx hxw5
      cases b
      · obtain ⟨c0, c1, c2, cf0, cf1, cf2, zC⟩ := blk3 hC5
        obtain ⟨r0, r1, r2, s0, s1, s2, zR⟩ := blk3 hR5
        go_wp2_with fail
        exact bodyPost_ret (v := .agg #[.int .i64 (a1 - 10), .int .i64 (a2 - 10), .int .i64 (1 + a3)]) (by simp [results, Try.results44, go_sem, r0, r1, r2]) rfl ⟨_, _, _, rfl, ⟨by omega, by omega⟩, ⟨by omega, by omega⟩, ⟨by omega, by omega⟩, ((((hw5.mono (u' := u + 7) (by omega)).setOther (by omega) _).setOther (by omega) _).setOther (by omega) _), (((hE5.setNew (by omega) _ _).setNew (by omega) _ _).setNew (by omega) _ _)⟩
      · go_wp2_with fail
        have hz5 := hw5.lt
        have hc5 := blk_lt hC5
        refine (pick_any B (u + 4 + 1) 3 _ (hw5.alloc _) (by omega) (by omega) (by omega)).mono ?_; rintro e w6 ⟨a6, rfl, a60, a61, hw6, hxw6⟩
        have hC6 := blk_ext (blk_old hC5 _) hxw6 (by omega)
        have hR6 := blk_ext (blk_old hR5 _) hxw6 (by omega)
        have hE6 := (hE5.alloc _).trans hxw6
        obtain ⟨v, hv, v0, v1⟩ := blk_int_at [0, -1, 21] (blk_ext (blk_new w5 _) hxw6 (by omega)) (-1) 21 (by decide) a6.toNat (by simp; omega)
        have hC7 := blk3_at2 (v := .int .i64 v) hC6
        have hR7 := blk_setOther (i := 2) hR6 (show w.heap.size ≠ C by omega) (.int .i64 v)
        have hE7 := hE6.setNew (show w.heap.size ≤ C by omega) 2 (.int .i64 v)
        have h7 := hw6.setOther (show B < C by omega) (i := 2) (.int .i64 v)
        obtain ⟨c0, c1, c2, cf0, cf1, cf2, zC⟩ := blk3 hC6
        obtain ⟨d0, d1, d2, df0, df1, df2, zC⟩ := blk3 hC7
        obtain ⟨r0, r1, r2, s0, s1, s2, zR⟩ := blk3 hR7
        go_wp2_with fail
        exact bodyPost_ret (v := .agg #[.int .i64 (a1 - 10), .int .i64 (a2 - 10), .int .i64 v]) (by simp [results, Try.results44, go_sem, r0, r1, r2]) rfl ⟨_, _, _, rfl, ⟨by omega, by omega⟩, ⟨by omega, by omega⟩, ⟨by omega, by omega⟩, ((((h7.mono (u' := u + 7) (by omega)).setOther (by omega) _).setOther (by omega) _).setOther (by omega) _), (((hE7.setNew (by omega) _ _).setNew (by omega) _ _).setNew (by omega) _ _)⟩
theorem blk_drw {w : World} {k : Nat} {o : Obj} (h : w.heap[k]? = some o) : w.drew.heap[k]? = some o := h
theorem RdU.drw {B : Nat} {u : Int} {w : World} (h : RdU B u w) : RdU B u w.drew := h
theorem Ext.drw {B : Nat} {a w : World} (h : Ext B a w) : Ext B a w.drew := h.drewN 1
end Go.Proofs.Ytfgaggdiepielaa
