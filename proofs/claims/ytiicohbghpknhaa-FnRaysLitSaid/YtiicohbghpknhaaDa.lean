/- Places, blocks and directions that are drawn. -/
import Derived.Test.YtiicohbghpknhaaRdU
import Derived.Test.YtiicohbghpknhaaVh
import Derived.Test.YtiicohbghpknhaaVm
namespace Go.Proofs.Ytiicohbghpknhaa
open Go Go.ChangeShapes Go.WideShapes Go.ChangeAt Go.RowKit
set_option linter.unusedSimpArgs false
set_option linter.unusedVariables false

theorem blk2_at0 {w : World} {C : Nat} {x0 x1 v : Value} {t : TypeId} (h : w.heap[C]? = some (.cells #[x0, x1] t (0, 0))) : (w.setCell ⟨C, 0, none⟩ v).heap[C]? = some (.cells #[v, x1] t (0, 0)) := by
  have hlt := blk_lt h
  have h' : w.heap[C] = .cells #[x0, x1] t (0, 0) := by simpa [Array.getElem?_eq_getElem hlt] using h
  show (w.heap.modify C _)[C]? = _
  rw [Array.getElem?_eq_getElem (by simpa using hlt), Array.getElem_modify_self, h']
  rfl
theorem blk2_at1 {w : World} {C : Nat} {x0 x1 v : Value} {t : TypeId} (h : w.heap[C]? = some (.cells #[x0, x1] t (0, 0))) : (w.setCell ⟨C, 1, none⟩ v).heap[C]? = some (.cells #[x0, v] t (0, 0)) := by
  have hlt := blk_lt h
  have h' : w.heap[C] = .cells #[x0, x1] t (0, 0) := by simpa [Array.getElem?_eq_getElem hlt] using h
  show (w.heap.modify C _)[C]? = _
  rw [Array.getElem?_eq_getElem (by simpa using hlt), Array.getElem_modify_self, h']
  rfl
theorem blk3_at0 {w : World} {C : Nat} {x0 x1 x2 v : Value} {t : TypeId} (h : w.heap[C]? = some (.cells #[x0, x1, x2] t (0, 0))) : (w.setCell ⟨C, 0, none⟩ v).heap[C]? = some (.cells #[v, x1, x2] t (0, 0)) := by
  have hlt := blk_lt h
  have h' : w.heap[C] = .cells #[x0, x1, x2] t (0, 0) := by simpa [Array.getElem?_eq_getElem hlt] using h
  show (w.heap.modify C _)[C]? = _
  rw [Array.getElem?_eq_getElem (by simpa using hlt), Array.getElem_modify_self, h']
  rfl
theorem blk3_at1 {w : World} {C : Nat} {x0 x1 x2 v : Value} {t : TypeId} (h : w.heap[C]? = some (.cells #[x0, x1, x2] t (0, 0))) : (w.setCell ⟨C, 1, none⟩ v).heap[C]? = some (.cells #[x0, v, x2] t (0, 0)) := by
  have hlt := blk_lt h
  have h' : w.heap[C] = .cells #[x0, x1, x2] t (0, 0) := by simpa [Array.getElem?_eq_getElem hlt] using h
  show (w.heap.modify C _)[C]? = _
  rw [Array.getElem?_eq_getElem (by simpa using hlt), Array.getElem_modify_self, h']
  rfl
theorem blk3_at2 {w : World} {C : Nat} {x0 x1 x2 v : Value} {t : TypeId} (h : w.heap[C]? = some (.cells #[x0, x1, x2] t (0, 0))) : (w.setCell ⟨C, 2, none⟩ v).heap[C]? = some (.cells #[x0, x1, v] t (0, 0)) := by
  have hlt := blk_lt h
  have h' : w.heap[C] = .cells #[x0, x1, x2] t (0, 0) := by simpa [Array.getElem?_eq_getElem hlt] using h
  show (w.heap.modify C _)[C]? = _
  rw [Array.getElem?_eq_getElem (by simpa using hlt), Array.getElem_modify_self, h']
  rfl
theorem blk5_at0 {w : World} {C : Nat} {x0 x1 x2 x3 x4 v : Value} {t : TypeId} (h : w.heap[C]? = some (.cells #[x0, x1, x2, x3, x4] t (0, 0))) : (w.setCell ⟨C, 0, none⟩ v).heap[C]? = some (.cells #[v, x1, x2, x3, x4] t (0, 0)) := by
  have hlt := blk_lt h
  have h' : w.heap[C] = .cells #[x0, x1, x2, x3, x4] t (0, 0) := by simpa [Array.getElem?_eq_getElem hlt] using h
  show (w.heap.modify C _)[C]? = _
  rw [Array.getElem?_eq_getElem (by simpa using hlt), Array.getElem_modify_self, h']
  rfl
theorem blk5_at1 {w : World} {C : Nat} {x0 x1 x2 x3 x4 v : Value} {t : TypeId} (h : w.heap[C]? = some (.cells #[x0, x1, x2, x3, x4] t (0, 0))) : (w.setCell ⟨C, 1, none⟩ v).heap[C]? = some (.cells #[x0, v, x2, x3, x4] t (0, 0)) := by
  have hlt := blk_lt h
  have h' : w.heap[C] = .cells #[x0, x1, x2, x3, x4] t (0, 0) := by simpa [Array.getElem?_eq_getElem hlt] using h
  show (w.heap.modify C _)[C]? = _
  rw [Array.getElem?_eq_getElem (by simpa using hlt), Array.getElem_modify_self, h']
  rfl
theorem blk5_at2 {w : World} {C : Nat} {x0 x1 x2 x3 x4 v : Value} {t : TypeId} (h : w.heap[C]? = some (.cells #[x0, x1, x2, x3, x4] t (0, 0))) : (w.setCell ⟨C, 2, none⟩ v).heap[C]? = some (.cells #[x0, x1, v, x3, x4] t (0, 0)) := by
  have hlt := blk_lt h
  have h' : w.heap[C] = .cells #[x0, x1, x2, x3, x4] t (0, 0) := by simpa [Array.getElem?_eq_getElem hlt] using h
  show (w.heap.modify C _)[C]? = _
  rw [Array.getElem?_eq_getElem (by simpa using hlt), Array.getElem_modify_self, h']
  rfl
theorem blk5_at3 {w : World} {C : Nat} {x0 x1 x2 x3 x4 v : Value} {t : TypeId} (h : w.heap[C]? = some (.cells #[x0, x1, x2, x3, x4] t (0, 0))) : (w.setCell ⟨C, 3, none⟩ v).heap[C]? = some (.cells #[x0, x1, x2, v, x4] t (0, 0)) := by
  have hlt := blk_lt h
  have h' : w.heap[C] = .cells #[x0, x1, x2, x3, x4] t (0, 0) := by simpa [Array.getElem?_eq_getElem hlt] using h
  show (w.heap.modify C _)[C]? = _
  rw [Array.getElem?_eq_getElem (by simpa using hlt), Array.getElem_modify_self, h']
  rfl
theorem blk5_at4 {w : World} {C : Nat} {x0 x1 x2 x3 x4 v : Value} {t : TypeId} (h : w.heap[C]? = some (.cells #[x0, x1, x2, x3, x4] t (0, 0))) : (w.setCell ⟨C, 4, none⟩ v).heap[C]? = some (.cells #[x0, x1, x2, x3, v] t (0, 0)) := by
  have hlt := blk_lt h
  have h' : w.heap[C] = .cells #[x0, x1, x2, x3, x4] t (0, 0) := by simpa [Array.getElem?_eq_getElem hlt] using h
  show (w.heap.modify C _)[C]? = _
  rw [Array.getElem?_eq_getElem (by simpa using hlt), Array.getElem_modify_self, h']
  rfl
def PlaceIs (B : Nat) (u : Int) (w : World) (e : Ending) (w' : World) : Prop :=
  ∃ a b : Int, e = .returned (.agg #[.int .i64 a, .int .i64 b]) ∧ (-100 ≤ a ∧ a ≤ 100) ∧ (-100 ≤ b ∧ b ≤ 100) ∧ RdU B u w' ∧ Ext B w w'
def BlockIs (B : Nat) (u : Int) (w : World) (e : Ending) (w' : World) : Prop :=
  ∃ a b c d f : Int, e = .returned (.agg #[.int .i64 a, .int .i64 b, .int .i64 c, .int .i64 d, .int .i64 f]) ∧ (-100 ≤ a ∧ a ≤ 100) ∧ (-100 ≤ b ∧ b ≤ 100) ∧ (-100 ≤ c ∧ c ≤ 100) ∧ (-100 ≤ d ∧ d ≤ 100) ∧ (-100 ≤ f ∧ f ≤ 100) ∧ RdU B u w' ∧ Ext B w w'
def RayIs (B : Nat) (u : Int) (w : World) (e : Ending) (w' : World) : Prop :=
  ∃ a b c : Int, e = .returned (.agg #[.int .i64 a, .int .i64 b, .int .i64 c]) ∧ (-100 ≤ a ∧ a ≤ 100) ∧ (-100 ≤ b ∧ b ≤ 100) ∧ (-100 ≤ c ∧ c ≤ 100) ∧ RdU B u w' ∧ Ext B w w'
set_option maxRecDepth 100000 in
set_option maxHeartbeats 8000000 in
theorem place_any (B : Nat) (u n : Int) (w : World) (h : RdU B u w) (hu : u ≤ 800000) (hn : 0 ≤ n) (hn1 : n ≤ 1000000) : Calls Try.prog 47 #[.pointer (some ⟨B, 0, none⟩), .int .i64 n] w (PlaceIs B (u + 4) w) := by
  have hBw := h.lt
  go_enter Try.func47, Try.ntmps47
  go_wp2_with fail
  refine (pick_any B (u) 25 _ (h.alloc _) (by omega) (by omega) (by omega)).mono ?_; rintro e w1 ⟨a1, rfl, a10, a11, hw1, hxw1⟩
  go_wp2_with fail
  refine (pick_any B (u + 1) 25 _ hw1 (by omega) (by omega) (by omega)).mono ?_; rintro e w2 ⟨a2, rfl, a20, a21, hw2, hxw2⟩
  go_wp2_with fail
  have hB2 := hw2.lt
  refine (odd0_any B (u + 1 + 1) n _ (hw2.alloc _) (by omega) hn hn1).mono ?_; rintro e w3 ⟨b, rfl, hw3, hxw3⟩
  have hR2 := blk_ext (blk_ext (blk_new w (.cells #[.int .i64 0, .int .i64 0] 41)) hxw1 (by omega)) hxw2 (by omega)
  have hRC := blk_lt hR2
  have hR := blk_ext (blk_old hR2 _) hxw3 (by omega)
  have hC := blk_ext (blk_new w2 (.cells #[.int .i64 (a1 - 12), .int .i64 (a2 - 12)] 41)) hxw3 (by omega)
  have hE : Ext B w w3 := (((((Ext.refl B w).alloc _).trans hxw1).trans hxw2).alloc _).trans hxw3
  clear hxw1 hxw2 hxw3 hR2 hw1 hw2 hB2
  generalize w2.heap.size = C at *
  cases b
  · obtain ⟨c0, c1, cf0, cf1, zC⟩ := blk2 hC
    obtain ⟨r0, r1, s0, s1, zR⟩ := blk2 hR
    go_wp2_with fail
    exact bodyPost_ret (v := .agg #[.int .i64 (a1 - 12), .int .i64 (a2 - 12)]) (by simp [results, Try.results47, go_sem, r0, r1]) rfl ⟨_, _, rfl, ⟨by omega, by omega⟩, ⟨by omega, by omega⟩, (((hw3.mono (u' := u + 4) (by omega)).setOther (by omega) _).setOther (by omega) _), ((hE.setNew (by omega) _ _).setNew (by omega) _ _)⟩
  · go_wp2_with fail
    have hz3 := hw3.lt
    have hc3 := blk_lt hC
    refine (pick_any B (u + 1 + 1 + 1) 2 _ (hw3.alloc _) (by omega) (by omega) (by omega)).mono ?_; rintro e w4 ⟨a4, rfl, a40, a41, hw4, hxw4⟩
    have hC4 := blk_ext (blk_old hC _) hxw4 (by omega)
    have hR4 := blk_ext (blk_old hR _) hxw4 (by omega)
    have hE4 := (hE.alloc _).trans hxw4
    obtain ⟨v, hv, v0, v1⟩ := blk_int_at [-51, 51] (blk_ext (blk_new w3 _) hxw4 (by omega)) (-51) 51 (by decide) a4.toNat (by simp; omega)
    have hC5 := blk2_at1 (v := .int .i64 v) hC4
    have hR5 := blk_setOther (i := 1) hR4 (show w.heap.size ≠ C by omega) (.int .i64 v)
    have hE5 := hE4.setNew (show w.heap.size ≤ C by omega) 1 (.int .i64 v)
    have h5 := hw4.setOther (show B < C by omega) (i := 1) (.int .i64 v)
    obtain ⟨c0, c1, cf0, cf1, zC⟩ := blk2 hC4
    obtain ⟨d0, d1, df0, df1, zC⟩ := blk2 hC5
    obtain ⟨r0, r1, s0, s1, zR⟩ := blk2 hR5
    go_wp2_with fail
    exact bodyPost_ret (v := .agg #[.int .i64 (a1 - 12), .int .i64 v]) (by simp [results, Try.results47, go_sem, r0, r1]) rfl ⟨_, _, rfl, ⟨by omega, by omega⟩, ⟨by omega, by omega⟩, (((h5.mono (u' := u + 4) (by omega)).setOther (by omega) _).setOther (by omega) _), ((hE5.setNew (by omega) _ _).setNew (by omega) _ _)⟩
set_option maxRecDepth 100000 in
set_option maxHeartbeats 8000000 in
theorem ray_any (B : Nat) (u n : Int) (w : World) (h : RdU B u w) (hu : u ≤ 800000) (hn : 0 ≤ n) (hn1 : n ≤ 1000000) : Calls Try.prog 46 #[.pointer (some ⟨B, 0, none⟩), .int .i64 n] w (RayIs B (u + 7) w) := by
  have hBw := h.lt
  go_enter Try.func46, Try.ntmps46
  go_wp2_with fail
  refine (pick_any B (u) 21 _ (h.alloc _) (by omega) (by omega) (by omega)).mono ?_; rintro e w1 ⟨a1, rfl, a10, a11, hw1, hxw1⟩
  go_wp2_with fail
  refine (pick_any B (u + 1) 21 _ hw1 (by omega) (by omega) (by omega)).mono ?_; rintro e w2 ⟨a2, rfl, a20, a21, hw2, hxw2⟩
  go_wp2_with fail
  refine (pick_any B (u + 1 + 1) 10 _ hw2 (by omega) (by omega) (by omega)).mono ?_; rintro e w3 ⟨a3, rfl, a30, a31, hw3, hxw3⟩
  go_wp2_with fail
  have hB3 := hw3.lt
  refine (pick_any B (u + 1 + 1 + 1) 6 _ (hw3.alloc _) (by omega) (by omega) (by omega)).mono ?_; rintro e w4 ⟨a4, rfl, a40, a41, hw4, hxw4⟩
  have hR2 := blk_ext (blk_ext (blk_ext (blk_new w (.cells #[.int .i64 0, .int .i64 0, .int .i64 0] 71)) hxw1 (by omega)) hxw2 (by omega)) hxw3 (by omega)
  have hRC := blk_lt hR2
  have hR := blk_ext (blk_old hR2 _) hxw4 (by omega)
  have hC := blk_ext (blk_new w3 (.cells #[.int .i64 (a1 - 10), .int .i64 (a2 - 10), .int .i64 (1 + a3)] 71)) hxw4 (by omega)
  have hE : Ext B w w4 := ((((((Ext.refl B w).alloc _).trans hxw1).trans hxw2).trans hxw3).alloc _).trans hxw4
  clear hxw1 hxw2 hxw3 hxw4 hR2 hw1 hw2 hw3 hB3
  generalize w3.heap.size = C at *
  have hB4 := hw4.lt
  obtain ⟨c0, c1, c2, cf0, cf1, cf2, zC⟩ := blk3 hC
  by_cases k0 : a4 = 0
  · subst k0
    go_wp2_with fail
    have hCx := (blk3_at0 (v := .int .i64 0) hC)
    have hRx := (blk_setOther (i := 0) hR (show w.heap.size ≠ C by omega) (.int .i64 0))
    have hx := ((hw4.mono (u' := u + 4) (by omega)).setOther (show B < C by omega) (i := 0) (.int .i64 0))
    have hEx := (hE.setNew (show w.heap.size ≤ C by omega) 0 (.int .i64 0))
    clear hC hR hE hw4 c0 c1 c2 cf0 cf1 cf2
    obtain ⟨c0, c1, c2, cf0, cf1, cf2, zC⟩ := blk3 hCx
    refine (odd0_any B (u + 4) n _ hx (by omega) hn hn1).mono ?_; rintro e w5 ⟨b, rfl, hw5, hxw5⟩
    have hC5 := blk_ext hCx hxw5 (by omega)
    have hR5 := blk_ext hRx hxw5 (by omega)
    have hE5 := hEx.trans hxw5
    clear hCx hRx hEx hxw5
    cases b
    · obtain ⟨c0, c1, c2, cf0, cf1, cf2, zC⟩ := blk3 hC5
      obtain ⟨r0, r1, r2, s0, s1, s2, zR⟩ := blk3 hR5
      go_wp2_with fail
      exact bodyPost_ret (v := .agg #[.int .i64 0, .int .i64 (a2 - 10), .int .i64 (1 + a3)]) (by simp [results, Try.results46, go_sem, r0, r1, r2]) rfl ⟨_, _, _, rfl, ⟨by omega, by omega⟩, ⟨by omega, by omega⟩, ⟨by omega, by omega⟩, ((((hw5.mono (u' := u + 7) (by omega)).setOther (by omega) _).setOther (by omega) _).setOther (by omega) _), (((hE5.setNew (by omega) _ _).setNew (by omega) _ _).setNew (by omega) _ _)⟩
    · go_wp2_with fail
      have hz5 := hw5.lt
      have hc5 := blk_lt hC5
      refine (pick_any B (u + 4 + 1) 3 _ (hw5.alloc _) (by omega) (by omega) (by omega)).mono ?_; rintro e w6 ⟨a6, rfl, a60, a61, hw6, hxw6⟩
      have hC6 := blk_ext (blk_old hC5 _) hxw6 (by omega)
      have hR6 := blk_ext (blk_old hR5 _) hxw6 (by omega)
      have hE6 := (hE5.alloc _).trans hxw6
      obtain ⟨v, hv, v0, v1⟩ := blk_int_at [0, -1, 21] (blk_ext (blk_new w5 _) hxw6 (by omega)) (-1) 21 (by decide) a6.toNat (by simp; omega)
      have hC7 := blk3_at2 (v := .int .i64 v) hC6
      have hR7 := blk_setOther (i := 2) hR6 (show w.heap.size ≠ C by omega) (.int .i64 v)
      have hE7 := hE6.setNew (show w.heap.size ≤ C by omega) 2 (.int .i64 v)
      have h7 := hw6.setOther (show B < C by omega) (i := 2) (.int .i64 v)
      obtain ⟨c0, c1, c2, cf0, cf1, cf2, zC⟩ := blk3 hC6
      obtain ⟨d0, d1, d2, df0, df1, df2, zC⟩ := blk3 hC7
      obtain ⟨r0, r1, r2, s0, s1, s2, zR⟩ := blk3 hR7
      go_wp2_with fail
      exact bodyPost_ret (v := .agg #[.int .i64 0, .int .i64 (a2 - 10), .int .i64 v]) (by simp [results, Try.results46, go_sem, r0, r1, r2]) rfl ⟨_, _, _, rfl, ⟨by omega, by omega⟩, ⟨by omega, by omega⟩, ⟨by omega, by omega⟩, ((((h7.mono (u' := u + 7) (by omega)).setOther (by omega) _).setOther (by omega) _).setOther (by omega) _), (((hE7.setNew (by omega) _ _).setNew (by omega) _ _).setNew (by omega) _ _)⟩
  · have e0 : (a4 == 0) = false := by rw [beq_eq_false_iff_ne]; omega
    by_cases k1 : a4 = 1
    · subst k1
      clear k0 e0
      go_wp2_with fail
      have hCx := (blk3_at1 (v := .int .i64 0) hC)
      have hRx := (blk_setOther (i := 1) hR (show w.heap.size ≠ C by omega) (.int .i64 0))
      have hx := ((hw4.mono (u' := u + 4) (by omega)).setOther (show B < C by omega) (i := 1) (.int .i64 0))
      have hEx := (hE.setNew (show w.heap.size ≤ C by omega) 1 (.int .i64 0))
      clear hC hR hE hw4 c0 c1 c2 cf0 cf1 cf2
      obtain ⟨c0, c1, c2, cf0, cf1, cf2, zC⟩ := blk3 hCx
      refine (odd0_any B (u + 4) n _ hx (by omega) hn hn1).mono ?_; rintro e w5 ⟨b, rfl, hw5, hxw5⟩
      have hC5 := blk_ext hCx hxw5 (by omega)
      have hR5 := blk_ext hRx hxw5 (by omega)
      have hE5 := hEx.trans hxw5
      clear hCx hRx hEx hxw5
      cases b
      · obtain ⟨c0, c1, c2, cf0, cf1, cf2, zC⟩ := blk3 hC5
        obtain ⟨r0, r1, r2, s0, s1, s2, zR⟩ := blk3 hR5
        go_wp2_with fail
        exact bodyPost_ret (v := .agg #[.int .i64 (a1 - 10), .int .i64 0, .int .i64 (1 + a3)]) (by simp [results, Try.results46, go_sem, r0, r1, r2]) rfl ⟨_, _, _, rfl, ⟨by omega, by omega⟩, ⟨by omega, by omega⟩, ⟨by omega, by omega⟩, ((((hw5.mono (u' := u + 7) (by omega)).setOther (by omega) _).setOther (by omega) _).setOther (by omega) _), (((hE5.setNew (by omega) _ _).setNew (by omega) _ _).setNew (by omega) _ _)⟩
      · go_wp2_with fail
        have hz5 := hw5.lt
        have hc5 := blk_lt hC5
        refine (pick_any B (u + 4 + 1) 3 _ (hw5.alloc _) (by omega) (by omega) (by omega)).mono ?_; rintro e w6 ⟨a6, rfl, a60, a61, hw6, hxw6⟩
        have hC6 := blk_ext (blk_old hC5 _) hxw6 (by omega)
        have hR6 := blk_ext (blk_old hR5 _) hxw6 (by omega)
        have hE6 := (hE5.alloc _).trans hxw6
        obtain ⟨v, hv, v0, v1⟩ := blk_int_at [0, -1, 21] (blk_ext (blk_new w5 _) hxw6 (by omega)) (-1) 21 (by decide) a6.toNat (by simp; omega)
        have hC7 := blk3_at2 (v := .int .i64 v) hC6
        have hR7 := blk_setOther (i := 2) hR6 (show w.heap.size ≠ C by omega) (.int .i64 v)
        have hE7 := hE6.setNew (show w.heap.size ≤ C by omega) 2 (.int .i64 v)
        have h7 := hw6.setOther (show B < C by omega) (i := 2) (.int .i64 v)
        obtain ⟨c0, c1, c2, cf0, cf1, cf2, zC⟩ := blk3 hC6
        obtain ⟨d0, d1, d2, df0, df1, df2, zC⟩ := blk3 hC7
        obtain ⟨r0, r1, r2, s0, s1, s2, zR⟩ := blk3 hR7
        go_wp2_with fail
        exact bodyPost_ret (v := .agg #[.int .i64 (a1 - 10), .int .i64 0, .int .i64 v]) (by simp [results, Try.results46, go_sem, r0, r1, r2]) rfl ⟨_, _, _, rfl, ⟨by omega, by omega⟩, ⟨by omega, by omega⟩, ⟨by omega, by omega⟩, ((((h7.mono (u' := u + 7) (by omega)).setOther (by omega) _).setOther (by omega) _).setOther (by omega) _), (((hE7.setNew (by omega) _ _).setNew (by omega) _ _).setNew (by omega) _ _)⟩
    · have e1 : (a4 == 1) = false := by rw [beq_eq_false_iff_ne]; omega
      clear k0 k1
      go_wp2_with fail
      have hCx := hC
      have hRx := hR
      have hx := hw4.mono (u' := u + 4) (by omega)
      have hEx := hE
      clear hC hR hE hw4 c0 c1 c2 cf0 cf1 cf2
      obtain ⟨c0, c1, c2, cf0, cf1, cf2, zC⟩ := blk3 hCx
      refine (odd0_any B (u + 4) n _ hx (by omega) hn hn1).mono ?_; rintro e w5 ⟨b, rfl, hw5, hxw5⟩
      have hC5 := blk_ext hCx hxw5 (by omega)
      have hR5 := blk_ext hRx hxw5 (by omega)
      have hE5 := hEx.trans hxw5
      clear hCx hRx hEx hxw5
      cases b
      · obtain ⟨c0, c1, c2, cf0, cf1, cf2, zC⟩ := blk3 hC5
        obtain ⟨r0, r1, r2, s0, s1, s2, zR⟩ := blk3 hR5
        go_wp2_with fail
        exact bodyPost_ret (v := .agg #[.int .i64 (a1 - 10), .int .i64 (a2 - 10), .int .i64 (1 + a3)]) (by simp [results, Try.results46, go_sem, r0, r1, r2]) rfl ⟨_, _, _, rfl, ⟨by omega, by omega⟩, ⟨by omega, by omega⟩, ⟨by omega, by omega⟩, ((((hw5.mono (u' := u + 7) (by omega)).setOther (by omega) _).setOther (by omega) _).setOther (by omega) _), (((hE5.setNew (by omega) _ _).setNew (by omega) _ _).setNew (by omega) _ _)⟩
      · go_wp2_with fail
        have hz5 := hw5.lt
        have hc5 := blk_lt hC5
        refine (pick_any B (u + 4 + 1) 3 _ (hw5.alloc _) (by omega) (by omega) (by omega)).mono ?_; rintro e w6 ⟨a6, rfl, a60, a61, hw6, hxw6⟩
        have hC6 := blk_ext (blk_old hC5 _) hxw6 (by omega)
        have hR6 := blk_ext (blk_old hR5 _) hxw6 (by omega)
        have hE6 := (hE5.alloc _).trans hxw6
        obtain ⟨v, hv, v0, v1⟩ := blk_int_at [0, -1, 21] (blk_ext (blk_new w5 _) hxw6 (by omega)) (-1) 21 (by decide) a6.toNat (by simp; omega)
        have hC7 := blk3_at2 (v := .int .i64 v) hC6
        have hR7 := blk_setOther (i := 2) hR6 (show w.heap.size ≠ C by omega) (.int .i64 v)
        have hE7 := hE6.setNew (show w.heap.size ≤ C by omega) 2 (.int .i64 v)
        have h7 := hw6.setOther (show B < C by omega) (i := 2) (.int .i64 v)
        obtain ⟨c0, c1, c2, cf0, cf1, cf2, zC⟩ := blk3 hC6
        obtain ⟨d0, d1, d2, df0, df1, df2, zC⟩ := blk3 hC7
        obtain ⟨r0, r1, r2, s0, s1, s2, zR⟩ := blk3 hR7
        go_wp2_with fail
        exact bodyPost_ret (v := .agg #[.int .i64 (a1 - 10), .int .i64 (a2 - 10), .int .i64 v]) (by simp [results, Try.results46, go_sem, r0, r1, r2]) rfl ⟨_, _, _, rfl, ⟨by omega, by omega⟩, ⟨by omega, by omega⟩, ⟨by omega, by omega⟩, ((((h7.mono (u' := u + 7) (by omega)).setOther (by omega) _).setOther (by omega) _).setOther (by omega) _), (((hE7.setNew (by omega) _ _).setNew (by omega) _ _).setNew (by omega) _ _)⟩
theorem blk_drw {w : World} {k : Nat} {o : Obj} (h : w.heap[k]? = some o) : w.drew.heap[k]? = some o := h
theorem RdU.drw {B : Nat} {u : Int} {w : World} (h : RdU B u w) : RdU B u w.drew := h
theorem Ext.drw {B : Nat} {a w : World} (h : Ext B a w) : Ext B a w.drew := h.drewN 1
set_option maxRecDepth 100000 in
set_option maxHeartbeats 8000000 in
theorem block_any (B : Nat) (u n : Int) (w : World) (h : RdU B u w) (hu : u ≤ 800000) (hn : 0 ≤ n) (hn1 : n ≤ 1000000) : Calls Try.prog 70 #[.pointer (some ⟨B, 0, none⟩), .int .i64 n] w (BlockIs B (u + 8) w) := by
  have hBw := h.lt
  go_enter Try.func70, Try.ntmps70
  go_wp2_with fail
  refine (pick_any B (u) 20 _ (h.alloc _) (by omega) (by omega) (by omega)).mono ?_; rintro e w1 ⟨a1, rfl, a10, a11, hw1, hxw1⟩
  go_wp2_with fail
  refine (pick_any B (u + 1) 20 _ hw1 (by omega) (by omega) (by omega)).mono ?_; rintro e w2 ⟨a2, rfl, a20, a21, hw2, hxw2⟩
  go_wp2_with fail
  refine (pick_any B (u + 1 + 1) 12 _ hw2 (by omega) (by omega) (by omega)).mono ?_; rintro e w3 ⟨a3, rfl, a30, a31, hw3, hxw3⟩
  have hB3 := hw3.lt
  go_wp2_with fail
  have hR3 := blk_ext (blk_ext (blk_ext (blk_new w (.cells #[.int .i64 0, .int .i64 0, .int .i64 0, .int .i64 0, .int .i64 0] 91)) hxw1 (by omega)) hxw2 (by omega)) hxw3 (by omega)
  have hRC := blk_lt hR3
  have hZ_0 := blk_drw (blk_old hR3 (.cells #[.int .i64 (a1 - 12), .int .i64 0, .int .i64 (a2 - 12), .int .i64 0, .int .i64 (1 + a3)] 91 (0, 0)))
  have hC_0 := blk_drw (blk_new w3 (.cells #[.int .i64 (a1 - 12), .int .i64 0, .int .i64 (a2 - 12), .int .i64 0, .int .i64 (1 + a3)] 91 (0, 0)))
  have hE_0 : Ext B w _ := ((((((Ext.refl B w).alloc _).trans hxw1).trans hxw2).trans hxw3).alloc (.cells #[.int .i64 (a1 - 12), .int .i64 0, .int .i64 (a2 - 12), .int .i64 0, .int .i64 (1 + a3)] 91 (0, 0))).drw
  have hR_0 := (hw3.alloc (.cells #[.int .i64 (a1 - 12), .int .i64 0, .int .i64 (a2 - 12), .int .i64 0, .int .i64 (1 + a3)] 91 (0, 0))).drw
  clear hxw1 hxw2 hxw3 hR3 hw1 hw2 hw3
  generalize w3.heap.size = C at *
  refine wp_region_held_drew (S := (fun w' => w'.cell? ⟨C, 0, none⟩ = some (.int .i64 (a1 - 12)))) (by kernel_rfl) ((blk5 (hC_0)).1) (fun hHeld => ?_)
  have hc_0 := id hHeld
  refine wpAnyH_take (i := 0) (oi := _) (v := ?_) rfl (by kernel_rfl) (by kernel_rfl) (by kernel_rfl) (fun _ _ _ h => h) (Or.inl ⟨by rfl, ?_⟩) (by assumption) ?_
  (rotate_left); (focus (intro wv hSw; (have qc := hSw);  go_simp; (try with_reducible rfl)))
  try simp only [Act.put, List.getElem_toArray, List.getElem_cons_succ, List.getElem_cons_zero, List.setIfInBounds_toArray, List.set_cons_zero, List.set_cons_succ]
  refine wpAnyH_take (i := 1) (oi := _) (v := ?_) rfl (by kernel_rfl) (by kernel_rfl) (by kernel_rfl) (fun _ _ _ h => h) (Or.inl ⟨by rfl, ?_⟩) (by assumption) ?_
  (rotate_left); (focus (intro wv hSw; (have qc := hSw);  go_simp; (try with_reducible rfl)))
  try simp only [Act.put, List.getElem_toArray, List.getElem_cons_succ, List.getElem_cons_zero, List.setIfInBounds_toArray, List.set_cons_zero, List.set_cons_succ]
  refine wpAnyH_take (i := 2) (oi := _) (v := ?_) rfl (by kernel_rfl) (by kernel_rfl) (by kernel_rfl) (fun _ _ _ h => h) (Or.inl ⟨by rfl, ?_⟩) (by assumption) ?_
  (rotate_left); (focus (intro wv hSw; (have qc := hSw);  go_simp; (try with_reducible rfl)))
  try simp only [Act.put, List.getElem_toArray, List.getElem_cons_succ, List.getElem_cons_zero, List.setIfInBounds_toArray, List.set_cons_zero, List.set_cons_succ]
  refine wpAnyH_take (i := 3) (oi := _) (v := ?_) rfl (by kernel_rfl) (by kernel_rfl) (by kernel_rfl) (fun _ _ _ h => h) (Or.inl ⟨by rfl, ?_⟩) (by assumption) ?_
  (rotate_left); (focus (intro wv hSw; (have qc := hSw);  go_simp; (try with_reducible rfl)))
  try simp only [Act.put, List.getElem_toArray, List.getElem_cons_succ, List.getElem_cons_zero, List.setIfInBounds_toArray, List.set_cons_zero, List.set_cons_succ]
  refine wpAnyH_ready (rs := [4]) (by kernel_rfl) (by simp) ?_
  refine AllReadyH.cons (o := _) rfl (fun K hK => ?_) AllReadyH.nil
  go_simp
  (go_at_call 45; refine (pick_any B (u + 1 + 1 + 1) 8 _ hR_0 (by omega) (by omega) (by omega)).mono ?_; rintro e x0c ⟨a4, rfl, a40, a41, hR_0c, hw_0c⟩)
  refine hK.out _ _ ((blk5 (blk_ext hC_0 hw_0c (by omega))).1) (fun hHeld => ?_)
  clear hK K
  try simp only [Act.put, List.getElem_toArray, List.getElem_cons_succ, List.getElem_cons_zero, List.setIfInBounds_toArray, List.set_cons_zero, List.set_cons_succ]
  have hc_0c := id hHeld
  have hC_0c := blk_ext hC_0 hw_0c (by omega)
  have hZ_0c := blk_ext hZ_0 hw_0c (by omega)
  have hE_0c := hE_0.trans hw_0c
  refine wpAnyH_take (i := 5) (oi := _) (v := ?_) rfl (by kernel_rfl) (by kernel_rfl) (by kernel_rfl) (fun _ _ _ h => h) (Or.inl ⟨by rfl, ?_⟩) (by assumption) ?_
  (rotate_left); (focus (intro wv hSw; (have qc := hSw);  go_simp; (try with_reducible rfl)))
  try simp only [Act.put, List.getElem_toArray, List.getElem_cons_succ, List.getElem_cons_zero, List.setIfInBounds_toArray, List.set_cons_zero, List.set_cons_succ]
  refine wpAnyH_take (i := 6) (oi := _) (v := ?_) rfl (by kernel_rfl) (by kernel_rfl) (by kernel_rfl) (fun _ _ _ h => h) (Or.inl ⟨by rfl, ?_⟩) (by assumption) ?_
  (rotate_left); (focus (intro wv hSw; (have qc := hSw);  go_simp; (try with_reducible rfl)))
  try simp only [Act.put, List.getElem_toArray, List.getElem_cons_succ, List.getElem_cons_zero, List.setIfInBounds_toArray, List.set_cons_zero, List.set_cons_succ]
  obtain ⟨_, _, _, _, _, _, _, _, _, _, _⟩ := blk5 hC_0c
  refine wpAnyH_ready (rs := [7]) (by kernel_rfl) (by simp) ?_
  refine AllReadyH.cons (o := _) rfl (fun K hK => ?_) AllReadyH.nil
  go_simp
  refine hK.out _ _ ((blk5 (blk5_at1 hC_0c)).1) (fun hHeld => ?_)
  clear hK K
  try simp only [Act.put, List.getElem_toArray, List.getElem_cons_succ, List.getElem_cons_zero, List.setIfInBounds_toArray, List.set_cons_zero, List.set_cons_succ]
  have hc_0cw := id hHeld
  have hC_0cw := blk5_at1 (v := .int .i64 (IntKind.i64.wrap (IntKind.i64.wrap (a1 - 12 + 1) + a4))) hC_0c
  have hZ_0cw := blk_setOther (i := 1) hZ_0c (show w.heap.size ≠ C by omega) (.int .i64 (IntKind.i64.wrap (IntKind.i64.wrap (a1 - 12 + 1) + a4)))
  have hE_0cw := hE_0c.setNew (show w.heap.size ≤ C by omega) 1 (.int .i64 (IntKind.i64.wrap (IntKind.i64.wrap (a1 - 12 + 1) + a4)))
  have hR_0cw := hR_0c.setOther (show B < C by omega) (i := 1) (.int .i64 (IntKind.i64.wrap (IntKind.i64.wrap (a1 - 12 + 1) + a4)))
  refine wpAnyH_done (by kernel_rfl) ?_ _
  clear hC_0 hC_0c hZ_0 hZ_0c hE_0 hE_0c hR_0 hR_0c hc_0 hc_0c hc_0cw hHeld
  have ew : IntKind.i64.wrap (IntKind.i64.wrap (a1 - 12 + 1) + a4) = a1 - 12 + 1 + a4 := by rw [IntWalk.i64_in (a1 - 12 + 1) (by omega)]; exact IntWalk.i64_in _ (by omega)
  rw [ew] at hC_0cw hZ_0cw hE_0cw hR_0cw ⊢
  clear ew
  have hC_0 := blk_drw hC_0cw
  have hZ_0 := blk_drw hZ_0cw
  have hE_0 := hE_0cw.drw
  have hR_0 := hR_0cw.drw
  clear hC_0cw hZ_0cw hE_0cw hR_0cw
  go_wp2_with fail
  refine wp_region_held_drew (S := (fun w' => w'.cell? ⟨C, 2, none⟩ = some (.int .i64 (a2 - 12)))) (by kernel_rfl) ((blk5 (hC_0)).2.2.1) (fun hHeld => ?_)
  have hc_0 := id hHeld
  refine wpAnyH_take (i := 0) (oi := _) (v := ?_) rfl (by kernel_rfl) (by kernel_rfl) (by kernel_rfl) (fun _ _ _ h => h) (Or.inl ⟨by rfl, ?_⟩) (by assumption) ?_
  (rotate_left); (focus (intro wv hSw; (have qc := hSw);  go_simp; (try with_reducible rfl)))
  try simp only [Act.put, List.getElem_toArray, List.getElem_cons_succ, List.getElem_cons_zero, List.setIfInBounds_toArray, List.set_cons_zero, List.set_cons_succ]
  refine wpAnyH_take (i := 1) (oi := _) (v := ?_) rfl (by kernel_rfl) (by kernel_rfl) (by kernel_rfl) (fun _ _ _ h => h) (Or.inl ⟨by rfl, ?_⟩) (by assumption) ?_
  (rotate_left); (focus (intro wv hSw; (have qc := hSw);  go_simp; (try with_reducible rfl)))
  try simp only [Act.put, List.getElem_toArray, List.getElem_cons_succ, List.getElem_cons_zero, List.setIfInBounds_toArray, List.set_cons_zero, List.set_cons_succ]
  refine wpAnyH_take (i := 2) (oi := _) (v := ?_) rfl (by kernel_rfl) (by kernel_rfl) (by kernel_rfl) (fun _ _ _ h => h) (Or.inl ⟨by rfl, ?_⟩) (by assumption) ?_
  (rotate_left); (focus (intro wv hSw; (have qc := hSw);  go_simp; (try with_reducible rfl)))
  try simp only [Act.put, List.getElem_toArray, List.getElem_cons_succ, List.getElem_cons_zero, List.setIfInBounds_toArray, List.set_cons_zero, List.set_cons_succ]
  refine wpAnyH_take (i := 3) (oi := _) (v := ?_) rfl (by kernel_rfl) (by kernel_rfl) (by kernel_rfl) (fun _ _ _ h => h) (Or.inl ⟨by rfl, ?_⟩) (by assumption) ?_
  (rotate_left); (focus (intro wv hSw; (have qc := hSw);  go_simp; (try with_reducible rfl)))
  try simp only [Act.put, List.getElem_toArray, List.getElem_cons_succ, List.getElem_cons_zero, List.setIfInBounds_toArray, List.set_cons_zero, List.set_cons_succ]
  refine wpAnyH_ready (rs := [4]) (by kernel_rfl) (by simp) ?_
  refine AllReadyH.cons (o := _) rfl (fun K hK => ?_) AllReadyH.nil
  go_simp
  (go_at_call 45; refine (pick_any B (u + 1 + 1 + 1 + 1) 8 _ hR_0 (by omega) (by omega) (by omega)).mono ?_; rintro e x0c ⟨a5, rfl, a50, a51, hR_0c, hw_0c⟩)
  refine hK.out _ _ ((blk5 (blk_ext hC_0 hw_0c (by omega))).2.2.1) (fun hHeld => ?_)
  clear hK K
  try simp only [Act.put, List.getElem_toArray, List.getElem_cons_succ, List.getElem_cons_zero, List.setIfInBounds_toArray, List.set_cons_zero, List.set_cons_succ]
  have hc_0c := id hHeld
  have hC_0c := blk_ext hC_0 hw_0c (by omega)
  have hZ_0c := blk_ext hZ_0 hw_0c (by omega)
  have hE_0c := hE_0.trans hw_0c
  refine wpAnyH_take (i := 5) (oi := _) (v := ?_) rfl (by kernel_rfl) (by kernel_rfl) (by kernel_rfl) (fun _ _ _ h => h) (Or.inl ⟨by rfl, ?_⟩) (by assumption) ?_
  (rotate_left); (focus (intro wv hSw; (have qc := hSw);  go_simp; (try with_reducible rfl)))
  try simp only [Act.put, List.getElem_toArray, List.getElem_cons_succ, List.getElem_cons_zero, List.setIfInBounds_toArray, List.set_cons_zero, List.set_cons_succ]
  refine wpAnyH_take (i := 6) (oi := _) (v := ?_) rfl (by kernel_rfl) (by kernel_rfl) (by kernel_rfl) (fun _ _ _ h => h) (Or.inl ⟨by rfl, ?_⟩) (by assumption) ?_
  (rotate_left); (focus (intro wv hSw; (have qc := hSw);  go_simp; (try with_reducible rfl)))
  try simp only [Act.put, List.getElem_toArray, List.getElem_cons_succ, List.getElem_cons_zero, List.setIfInBounds_toArray, List.set_cons_zero, List.set_cons_succ]
  obtain ⟨_, _, _, _, _, _, _, _, _, _, _⟩ := blk5 hC_0c
  refine wpAnyH_ready (rs := [7]) (by kernel_rfl) (by simp) ?_
  refine AllReadyH.cons (o := _) rfl (fun K hK => ?_) AllReadyH.nil
  go_simp
  refine hK.out _ _ ((blk5 (blk5_at3 hC_0c)).2.2.1) (fun hHeld => ?_)
  clear hK K
  try simp only [Act.put, List.getElem_toArray, List.getElem_cons_succ, List.getElem_cons_zero, List.setIfInBounds_toArray, List.set_cons_zero, List.set_cons_succ]
  have hc_0cw := id hHeld
  have hC_0cw := blk5_at3 (v := .int .i64 (IntKind.i64.wrap (IntKind.i64.wrap (a2 - 12 + 1) + a5))) hC_0c
  have hZ_0cw := blk_setOther (i := 3) hZ_0c (show w.heap.size ≠ C by omega) (.int .i64 (IntKind.i64.wrap (IntKind.i64.wrap (a2 - 12 + 1) + a5)))
  have hE_0cw := hE_0c.setNew (show w.heap.size ≤ C by omega) 3 (.int .i64 (IntKind.i64.wrap (IntKind.i64.wrap (a2 - 12 + 1) + a5)))
  have hR_0cw := hR_0c.setOther (show B < C by omega) (i := 3) (.int .i64 (IntKind.i64.wrap (IntKind.i64.wrap (a2 - 12 + 1) + a5)))
  refine wpAnyH_done (by kernel_rfl) ?_ _
  clear hC_0 hC_0c hZ_0 hZ_0c hE_0 hE_0c hR_0 hR_0c hc_0 hc_0c hc_0cw hHeld
  have ew : IntKind.i64.wrap (IntKind.i64.wrap (a2 - 12 + 1) + a5) = a2 - 12 + 1 + a5 := by rw [IntWalk.i64_in (a2 - 12 + 1) (by omega)]; exact IntWalk.i64_in _ (by omega)
  rw [ew] at hC_0cw hZ_0cw hE_0cw hR_0cw ⊢
  clear ew
  go_wp2_with fail
  refine (odd0_any B (u + 1 + 1 + 1 + 1 + 1) n _ hR_0cw (by omega) hn hn1).mono ?_; rintro e w6 ⟨b, rfl, hw6, hxw6⟩
  have hC := blk_ext hC_0cw hxw6 (by omega)
  have hR := blk_ext hZ_0cw hxw6 (by omega)
  have hE := hE_0cw.trans hxw6
  clear hC_0cw hZ_0cw hE_0cw hR_0cw hxw6
  cases b
  · obtain ⟨c0, c1, c2, c3, c4, cf0, cf1, cf2, cf3, cf4, zC⟩ := blk5 hC
    obtain ⟨r0, r1, r2, r3, r4, s0, s1, s2, s3, s4, zR⟩ := blk5 hR
    go_wp2_with fail
    exact bodyPost_ret (v := .agg #[.int .i64 (a1 - 12), .int .i64 (a1 - 12 + 1 + a4), .int .i64 (a2 - 12), .int .i64 (a2 - 12 + 1 + a5), .int .i64 (1 + a3)]) (by simp [results, Try.results70, go_sem, r0, r1, r2, r3, r4]) rfl ⟨_, _, _, _, _, rfl, ⟨by omega, by omega⟩, ⟨by omega, by omega⟩, ⟨by omega, by omega⟩, ⟨by omega, by omega⟩, ⟨by omega, by omega⟩, ((((((hw6.mono (u' := u + 8) (by omega)).setOther (by omega) _).setOther (by omega) _).setOther (by omega) _).setOther (by omega) _).setOther (by omega) _), (((((hE.setNew (by omega) _ _).setNew (by omega) _ _).setNew (by omega) _ _).setNew (by omega) _ _).setNew (by omega) _ _)⟩
  · go_wp2_with fail
    refine (pick_any B (u + 1 + 1 + 1 + 1 + 1 + 1) 3 _ hw6 (by omega) (by omega) (by omega)).mono ?_; rintro e w7 ⟨a7, rfl, a70, a71, hw7, hxw7⟩
    have hC7 := blk_ext hC hxw7 (by omega)
    have hR7 := blk_ext hR hxw7 (by omega)
    have hE7 := hE.trans hxw7
    have hB7 := hw7.lt
    have hc7 := blk_lt hC7
    clear hC hR hE hxw7 hw6
    by_cases k0 : a7 = 0
    · subst k0
      have hC9 := blk5_at1 (v := .int .i64 (a1 - 12)) hC7
      have hR9 := blk_setOther (i := 1) hR7 (show w.heap.size ≠ C by omega) (.int .i64 (a1 - 12))
      have hE9 := hE7.setNew (show w.heap.size ≤ C by omega) 1 (.int .i64 (a1 - 12))
      have h9 := hw7.setOther (show B < C by omega) (i := 1) (.int .i64 (a1 - 12))
      obtain ⟨c0, c1, c2, c3, c4, cf0, cf1, cf2, cf3, cf4, zC⟩ := blk5 hC7
      obtain ⟨d0, d1, d2, d3, d4, df0, df1, df2, df3, df4, zC⟩ := blk5 hC9
      obtain ⟨r0, r1, r2, r3, r4, s0, s1, s2, s3, s4, zR⟩ := blk5 hR9
      go_wp2_with fail
      exact bodyPost_ret (v := .agg #[.int .i64 (a1 - 12), .int .i64 (a1 - 12), .int .i64 (a2 - 12), .int .i64 (a2 - 12 + 1 + a5), .int .i64 (1 + a3)]) (by simp [results, Try.results70, go_sem, r0, r1, r2, r3, r4]) rfl ⟨_, _, _, _, _, rfl, ⟨by omega, by omega⟩, ⟨by omega, by omega⟩, ⟨by omega, by omega⟩, ⟨by omega, by omega⟩, ⟨by omega, by omega⟩, ((((((h9.mono (u' := u + 8) (by omega)).setOther (by omega) _).setOther (by omega) _).setOther (by omega) _).setOther (by omega) _).setOther (by omega) _), (((((hE9.setNew (by omega) _ _).setNew (by omega) _ _).setNew (by omega) _ _).setNew (by omega) _ _).setNew (by omega) _ _)⟩
    · have e0 : (a7 == 0) = false := by rw [beq_eq_false_iff_ne]; omega
      by_cases k1 : a7 = 1
      · subst k1
        clear k0 e0
        go_wp2_with fail
        refine (pick_any B (u + 1 + 1 + 1 + 1 + 1 + 1 + 1) 2 _ (hw7.alloc _) (by omega) (by omega) (by omega)).mono ?_; rintro e w8 ⟨a8, rfl, a80, a81, hw8, hxw8⟩
        have hC8 := blk_ext (blk_old hC7 _) hxw8 (by omega)
        have hR8 := blk_ext (blk_old hR7 _) hxw8 (by omega)
        have hE8 := (hE7.alloc _).trans hxw8
        obtain ⟨v, hv, v0, v1⟩ := blk_int_at [0, 31] (blk_ext (blk_new w7 _) hxw8 (by omega)) 0 31 (by decide) a8.toNat (by simp; omega)
        have hC9 := blk5_at4 (v := .int .i64 v) hC8
        have hR9 := blk_setOther (i := 4) hR8 (show w.heap.size ≠ C by omega) (.int .i64 v)
        have hE9 := hE8.setNew (show w.heap.size ≤ C by omega) 4 (.int .i64 v)
        have h9 := hw8.setOther (show B < C by omega) (i := 4) (.int .i64 v)
        obtain ⟨c0, c1, c2, c3, c4, cf0, cf1, cf2, cf3, cf4, zC⟩ := blk5 hC8
        obtain ⟨d0, d1, d2, d3, d4, df0, df1, df2, df3, df4, zC⟩ := blk5 hC9
        obtain ⟨r0, r1, r2, r3, r4, s0, s1, s2, s3, s4, zR⟩ := blk5 hR9
        go_wp2_with fail
        exact bodyPost_ret (v := .agg #[.int .i64 (a1 - 12), .int .i64 (a1 - 12 + 1 + a4), .int .i64 (a2 - 12), .int .i64 (a2 - 12 + 1 + a5), .int .i64 v]) (by simp [results, Try.results70, go_sem, r0, r1, r2, r3, r4]) rfl ⟨_, _, _, _, _, rfl, ⟨by omega, by omega⟩, ⟨by omega, by omega⟩, ⟨by omega, by omega⟩, ⟨by omega, by omega⟩, ⟨by omega, by omega⟩, ((((((h9.mono (u' := u + 8) (by omega)).setOther (by omega) _).setOther (by omega) _).setOther (by omega) _).setOther (by omega) _).setOther (by omega) _), (((((hE9.setNew (by omega) _ _).setNew (by omega) _ _).setNew (by omega) _ _).setNew (by omega) _ _).setNew (by omega) _ _)⟩
      · have e1 : (a7 == 1) = false := by rw [beq_eq_false_iff_ne]; omega
        clear k0 k1
        have hC9 := blk5_at2 (v := .int .i64 (-51)) hC7
        have hR9 := blk_setOther (i := 2) hR7 (show w.heap.size ≠ C by omega) (.int .i64 (-51))
        have hE9 := hE7.setNew (show w.heap.size ≤ C by omega) 2 (.int .i64 (-51))
        have h9 := hw7.setOther (show B < C by omega) (i := 2) (.int .i64 (-51))
        obtain ⟨c0, c1, c2, c3, c4, cf0, cf1, cf2, cf3, cf4, zC⟩ := blk5 hC7
        obtain ⟨d0, d1, d2, d3, d4, df0, df1, df2, df3, df4, zC⟩ := blk5 hC9
        obtain ⟨r0, r1, r2, r3, r4, s0, s1, s2, s3, s4, zR⟩ := blk5 hR9
        go_wp2_with fail
        exact bodyPost_ret (v := .agg #[.int .i64 (a1 - 12), .int .i64 (a1 - 12 + 1 + a4), .int .i64 (-51), .int .i64 (a2 - 12 + 1 + a5), .int .i64 (1 + a3)]) (by simp [results, Try.results70, go_sem, r0, r1, r2, r3, r4]) rfl ⟨_, _, _, _, _, rfl, ⟨by omega, by omega⟩, ⟨by omega, by omega⟩, ⟨by omega, by omega⟩, ⟨by omega, by omega⟩, ⟨by omega, by omega⟩, ((((((h9.mono (u' := u + 8) (by omega)).setOther (by omega) _).setOther (by omega) _).setOther (by omega) _).setOther (by omega) _).setOther (by omega) _), (((((hE9.setNew (by omega) _ _).setNew (by omega) _ _).setNew (by omega) _ _).setNew (by omega) _ _).setNew (by omega) _ _)⟩
end Go.Proofs.Ytiicohbghpknhaa
