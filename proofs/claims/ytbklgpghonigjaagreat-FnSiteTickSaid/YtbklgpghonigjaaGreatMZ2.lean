/- Z2: texts joined. -/
import Derived.Test.YtbklgpghonigjaaGreatMQO
import Derived.Test.YtbklgpghonigjaaGreatMZd
import Derived.Test.YtbklgpghonigjaaGreatMQC
namespace Go.Proofs.YtbklgpghonigjaaGreat
open Go Go.ChangeShapes Go.WideShapes Go.ChangeAt Go.RowKit
set_option linter.unusedSimpArgs false
set_option linter.unusedVariables false
def FaceIs (B : Nat) (u : Int) (w : World) (e : Ending) (w' : World) : Prop :=
  ∃ a b c : Int, e = .returned (.agg #[.int .i64 a, .int .i64 b, .int .i64 c]) ∧ (-100 ≤ a ∧ a ≤ 100) ∧ (-100 ≤ b ∧ b ≤ 100) ∧ (-100 ≤ c ∧ c ≤ 100) ∧ RdU B u w' ∧ Ext B w w'
set_option maxRecDepth 100000 in
set_option maxHeartbeats 8000000 in
theorem face_any (B : Nat) (u n : Int) (w : World) (h : RdU B u w) (hu : u ≤ 800000) (hn : 0 ≤ n) (hn1 : n ≤ 1000000) : Calls Tryz.prog 89 #[.pointer (some ⟨B, 0, none⟩), .int .i64 n] w (FaceIs B (u + 6) w) := by
  have hBw := h.lt
  go_enter Tryz.func89, Tryz.ntmps89
  go_wp2_with fail
  refine (pick_any B (u) 21 _ (h.alloc _) (by omega) (by omega) (by omega)).mono ?_; rintro e w1 ⟨a1, rfl, a10, a11, hw1, hxw1⟩
  go_wp2_with fail
  refine (pick_any B (u + 1) 21 _ hw1 (by omega) (by omega) (by omega)).mono ?_; rintro e w2 ⟨a2, rfl, a20, a21, hw2, hxw2⟩
  go_wp2_with fail
  refine (pick_any B (u + 1 + 1) 11 _ hw2 (by omega) (by omega) (by omega)).mono ?_; rintro e w3 ⟨a3, rfl, a30, a31, hw3, hxw3⟩
  go_wp2_with fail
  have hB3 := hw3.lt
  refine (odd0_any B (u + 1 + 1 + 1) n _ (hw3.alloc _) (by omega) hn hn1).mono ?_; rintro e w4 ⟨b, rfl, hw4, hxw4⟩
  have hR2 := blk_ext (blk_ext (blk_ext (blk_new w (.cells #[.int .i64 0, .int .i64 0, .int .i64 0] 27)) hxw1 (by omega)) hxw2 (by omega)) hxw3 (by omega)
  have hRC := blk_lt hR2
  have hR := blk_ext (blk_old hR2 _) hxw4 (by omega)
  have hC := blk_ext (blk_new w3 (.cells #[.int .i64 (a1 - 10), .int .i64 (a2 - 10), .int .i64 a3] 27)) hxw4 (by omega)
  have hE : Ext B w w4 := ((((((Ext.refl B w).alloc _).trans hxw1).trans hxw2).trans hxw3).alloc _).trans hxw4
  clear hxw1 hxw2 hxw3 hxw4 hR2 hw1 hw2 hw3 hB3
  generalize w3.heap.size = C at *
  have hB4 := hw4.lt
  obtain ⟨x, hx9⟩ : ∃ x, a1 - 10 = x := ⟨_, rfl⟩
  obtain ⟨y, hy9⟩ : ∃ y, a2 - 10 = y := ⟨_, rfl⟩
  rw [hx9, hy9] at hC
  have hx0 : -10 ≤ x := by omega
  have hx1 : x ≤ 10 := by omega
  have hy0 : -10 ≤ y := by omega
  have hy1 : y ≤ 10 := by omega
  clear hx9 hy9
  obtain ⟨c0, c1, c2, cf0, cf1, cf2, zC⟩ := blk3 hC
  cases b
  · by_cases h1 : x = 0
    · subst h1
      by_cases h2 : y = 0
      · subst h2
        by_cases h3 : a3 = 0
        · subst h3
          have hCR : w.heap.size ≠ C := by omega
          have hCx := blk3_at2 (v := .int .i64 1) hC
          have hRx := blk_setOther (i := 2) hR hCR (.int .i64 1)
          have hx := (hw4.mono (u' := u + 6) (by omega)).setOther (show B < C by omega) (i := 2) (.int .i64 1)
          have hEx := hE.setNew (show w.heap.size ≤ C by omega) 2 (.int .i64 1)
          obtain ⟨d0, d1, d2, _, _, _, zC2⟩ := blk3 hCx
          obtain ⟨r0, r1, r2, s0, s1, s2, zR⟩ := blk3 hRx
          go_wp2_with fail
          exact bodyPost_ret (v := .agg #[.int .i64 0, .int .i64 0, .int .i64 1]) (by simp [results, Tryz.results89, go_sem, r0, r1, r2]) rfl ⟨_, _, _, rfl, ⟨by omega, by omega⟩, ⟨by omega, by omega⟩, ⟨by omega, by omega⟩, ((((hx.mono (u' := u + 6) (by omega)).setOther (by omega) _).setOther (by omega) _).setOther (by omega) _), (((hEx.setNew (by omega) _ _).setNew (by omega) _ _).setNew (by omega) _ _)⟩
        · obtain ⟨r0, r1, r2, s0, s1, s2, zR⟩ := blk3 hR
          go_wp2_with fail
          all_goals exact bodyPost_ret (v := .agg #[.int .i64 0, .int .i64 0, .int .i64 a3]) (by simp [results, Tryz.results89, go_sem, r0, r1, r2]) rfl ⟨_, _, _, rfl, ⟨by omega, by omega⟩, ⟨by omega, by omega⟩, ⟨by omega, by omega⟩, ((((hw4.mono (u' := u + 6) (by omega)).setOther (by omega) _).setOther (by omega) _).setOther (by omega) _), (((hE.setNew (by omega) _ _).setNew (by omega) _ _).setNew (by omega) _ _)⟩
      · obtain ⟨r0, r1, r2, s0, s1, s2, zR⟩ := blk3 hR
        go_wp2_with fail
        all_goals exact bodyPost_ret (v := .agg #[.int .i64 0, .int .i64 y, .int .i64 a3]) (by simp [results, Tryz.results89, go_sem, r0, r1, r2]) rfl ⟨_, _, _, rfl, ⟨by omega, by omega⟩, ⟨by omega, by omega⟩, ⟨by omega, by omega⟩, ((((hw4.mono (u' := u + 6) (by omega)).setOther (by omega) _).setOther (by omega) _).setOther (by omega) _), (((hE.setNew (by omega) _ _).setNew (by omega) _ _).setNew (by omega) _ _)⟩
    · obtain ⟨r0, r1, r2, s0, s1, s2, zR⟩ := blk3 hR
      go_wp2_with fail
      all_goals exact bodyPost_ret (v := .agg #[.int .i64 x, .int .i64 y, .int .i64 a3]) (by simp [results, Tryz.results89, go_sem, r0, r1, r2]) rfl ⟨_, _, _, rfl, ⟨by omega, by omega⟩, ⟨by omega, by omega⟩, ⟨by omega, by omega⟩, ((((hw4.mono (u' := u + 6) (by omega)).setOther (by omega) _).setOther (by omega) _).setOther (by omega) _), (((hE.setNew (by omega) _ _).setNew (by omega) _ _).setNew (by omega) _ _)⟩
  · go_wp2_with fail
    have hz4 := hw4.lt
    have hc4 := blk_lt hC
    refine (pick_any B (u + 1 + 1 + 1 + 1) 3 _ (hw4.alloc _) (by omega) (by omega) (by omega)).mono ?_; rintro e w5 ⟨a5, rfl, a50, a51, hw5, hxw5⟩
    have hR5 := blk_ext (blk_old hR _) hxw5 (by omega)
    have hL := blk_ext (blk_new w4 (.cells #[.int .i64 0, .int .i64 0, .int .i64 0, .int .i64 0, .int .i64 0, .int .i64 (-1), .int .i64 11, .int .i64 0, .int .i64 0] 27)) hxw5 (by omega)
    have hE5 := (hE.alloc _).trans hxw5
    have hw5l := hw5.lt
    have l0 : w5.cell? ⟨w4.heap.size, 0, none⟩ = some (.int .i64 0) := by simp [World.cell?, hL]
    have l1 : w5.cell? ⟨w4.heap.size, 1, none⟩ = some (.int .i64 0) := by simp [World.cell?, hL]
    have l2 : w5.cell? ⟨w4.heap.size, 2, none⟩ = some (.int .i64 0) := by simp [World.cell?, hL]
    have l3 : w5.cell? ⟨w4.heap.size, 3, none⟩ = some (.int .i64 0) := by simp [World.cell?, hL]
    have l4 : w5.cell? ⟨w4.heap.size, 4, none⟩ = some (.int .i64 0) := by simp [World.cell?, hL]
    have l5 : w5.cell? ⟨w4.heap.size, 5, none⟩ = some (.int .i64 (-1)) := by simp [World.cell?, hL]
    have l6 : w5.cell? ⟨w4.heap.size, 6, none⟩ = some (.int .i64 11) := by simp [World.cell?, hL]
    have l7 : w5.cell? ⟨w4.heap.size, 7, none⟩ = some (.int .i64 0) := by simp [World.cell?, hL]
    have l8 : w5.cell? ⟨w4.heap.size, 8, none⟩ = some (.int .i64 0) := by simp [World.cell?, hL]
    have hrz := blk_lt hR5
    clear hR hE hw4 hxw5 c0 c1 c2 cf0 cf1 cf2 hC
    generalize w4.heap.size = D at *
    by_cases k0 : a5 = 0
    · subst k0
      obtain ⟨r0, r1, r2, s0, s1, s2, zR⟩ := blk3 hR5
      go_wp2_with fail
      all_goals exact bodyPost_ret (v := .agg #[.int .i64 0, .int .i64 0, .int .i64 0]) (by simp [results, Tryz.results89, go_sem, r0, r1, r2]) rfl ⟨_, _, _, rfl, ⟨by omega, by omega⟩, ⟨by omega, by omega⟩, ⟨by omega, by omega⟩, ((((hw5.mono (u' := u + 6) (by omega)).setOther (by omega) _).setOther (by omega) _).setOther (by omega) _), (((hE5.setNew (by omega) _ _).setNew (by omega) _ _).setNew (by omega) _ _)⟩
    · by_cases k1 : a5 = 1
      · subst k1
        obtain ⟨r0, r1, r2, s0, s1, s2, zR⟩ := blk3 hR5
        go_wp2_with fail
        all_goals exact bodyPost_ret (v := .agg #[.int .i64 0, .int .i64 0, .int .i64 (-1)]) (by simp [results, Tryz.results89, go_sem, r0, r1, r2]) rfl ⟨_, _, _, rfl, ⟨by omega, by omega⟩, ⟨by omega, by omega⟩, ⟨by omega, by omega⟩, ((((hw5.mono (u' := u + 6) (by omega)).setOther (by omega) _).setOther (by omega) _).setOther (by omega) _), (((hE5.setNew (by omega) _ _).setNew (by omega) _ _).setNew (by omega) _ _)⟩
      · obtain rfl : a5 = 2 := by omega
        obtain ⟨r0, r1, r2, s0, s1, s2, zR⟩ := blk3 hR5
        go_wp2_with fail
        all_goals exact bodyPost_ret (v := .agg #[.int .i64 11, .int .i64 0, .int .i64 0]) (by simp [results, Tryz.results89, go_sem, r0, r1, r2]) rfl ⟨_, _, _, rfl, ⟨by omega, by omega⟩, ⟨by omega, by omega⟩, ⟨by omega, by omega⟩, ((((hw5.mono (u' := u + 6) (by omega)).setOther (by omega) _).setOther (by omega) _).setOther (by omega) _), (((hE5.setNew (by omega) _ _).setNew (by omega) _ _).setNew (by omega) _ _)⟩
end Go.Proofs.YtbklgpghonigjaaGreat
