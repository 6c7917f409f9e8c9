/- Bd: texts joined. -/
import Derived.Test.YtbklgpghonigjaaGreatMZd
import Derived.Test.YtbklgpghonigjaaGreatMQC
import Derived.Test.YtbklgpghonigjaaGreatMQG
namespace Go.Proofs.YtbklgpghonigjaaGreat
open Go Go.ChangeShapes Go.WideShapes Go.ChangeAt Go.RowKit
set_option linter.unusedSimpArgs false
set_option linter.unusedVariables false
def BandIs (B : Nat) (u : Int) (w : World) (e : Ending) (w' : World) : Prop :=
  ∃ lo hi : Int, e = .returned (.agg #[.int .i64 lo, .int .i64 hi]) ∧ (-1 ≤ lo ∧ lo ≤ 60) ∧ (0 ≤ hi ∧ hi ≤ 101) ∧ RdU B u w' ∧ Ext B w w'
set_option maxRecDepth 100000 in
set_option maxHeartbeats 8000000 in
theorem band_any (B : Nat) (u n : Int) (w : World) (h : RdU B u w) (hu : u ≤ 800000) (hn : 0 ≤ n) (hn1 : n ≤ 1000000) : Calls Tryz.prog 90 #[.pointer (some ⟨B, 0, none⟩), .int .i64 n] w (BandIs B (u + 4) w) := by
  have hBw := h.lt
  go_enter Tryz.func90, Tryz.ntmps90
  go_wp2_with fail
  refine (odd0_any B _ n _ (h.alloc _) (by omega) hn hn1).mono ?_; rintro e w1 ⟨b, rfl, hw1, hxw1⟩
  have hR := blk_ext (blk_new w (.cells #[.int .i64 0, .int .i64 0] 29)) hxw1 (by omega)
  have hE := ((Ext.refl B w).alloc (.cells #[.int .i64 0, .int .i64 0] 29)).trans hxw1
  have hB1 := hw1.lt
  cases b
  · go_wp2_with fail
    refine (pick_any B (_) 60 _ hw1 (by omega) (by omega) (by omega)).mono ?_; rintro e w2 ⟨a, rfl, a0, a1, hw2, hxw2⟩
    have hR2 := blk_ext hR hxw2 (by omega)
    have hE2 := hE.trans hxw2
    go_wp2_with fail
    refine (pick_any B (_) 40 _ hw2 (by omega) (by omega) (by omega)).mono ?_; rintro e w3 ⟨c, rfl, c0, c1, hw3, hxw3⟩
    have hR3 := blk_ext hR2 hxw3 (by omega)
    have hE3 := hE2.trans hxw3
    obtain ⟨r0, r1, s0, s1, zR⟩ := blk2 hR3
    go_wp2_with fail
    exact bodyPost_ret (v := .agg #[.int .i64 a, .int .i64 (a + 1 + c)]) (by simp [results, Tryz.results90, go_sem, r0, r1]) rfl ⟨_, _, rfl, ⟨by omega, by omega⟩, ⟨by omega, by omega⟩, (((hw3.mono (u' := u + 4) (by omega)).setOther (by omega) _).setOther (by omega) _), ((hE3.setNew (by omega) _ _).setNew (by omega) _ _)⟩
  · go_wp2_with fail
    refine (pick_any B (_) 3 _ (hw1.alloc _) (by omega) (by omega) (by omega)).mono ?_; rintro e w2 ⟨a, rfl, a0, a1, hw2, hxw2⟩
    have hz1 := blk_lt hR
    have hR2 := blk_ext (blk_old hR (.cells #[.int .i64 5, .int .i64 5, .int .i64 (-1), .int .i64 5, .int .i64 5, .int .i64 101] 29)) hxw2 (by omega)
    have hL := blk_ext (blk_new w1 (.cells #[.int .i64 5, .int .i64 5, .int .i64 (-1), .int .i64 5, .int .i64 5, .int .i64 101] 29)) hxw2 (by omega)
    have hE2 := (hE.alloc (.cells #[.int .i64 5, .int .i64 5, .int .i64 (-1), .int .i64 5, .int .i64 5, .int .i64 101] 29)).trans hxw2
    have hB2 := hw2.lt
    have l0 : w2.cell? ⟨w1.heap.size, 0, none⟩ = some (.int .i64 5) := by simp [World.cell?, hL]
    have l1 : w2.cell? ⟨w1.heap.size, 1, none⟩ = some (.int .i64 5) := by simp [World.cell?, hL]
    have l2 : w2.cell? ⟨w1.heap.size, 2, none⟩ = some (.int .i64 (-1)) := by simp [World.cell?, hL]
    have l3 : w2.cell? ⟨w1.heap.size, 3, none⟩ = some (.int .i64 5) := by simp [World.cell?, hL]
    have l4 : w2.cell? ⟨w1.heap.size, 4, none⟩ = some (.int .i64 5) := by simp [World.cell?, hL]
    have l5 : w2.cell? ⟨w1.heap.size, 5, none⟩ = some (.int .i64 101) := by simp [World.cell?, hL]
    clear hR hE hw1 hxw2
    have hDz := blk_lt hL
    generalize w1.heap.size = D at *
    by_cases k0 : a = 0
    · subst k0
      obtain ⟨r0, r1, s0, s1, zR⟩ := blk2 hR2
      go_wp2_with fail
      exact bodyPost_ret (v := .agg #[.int .i64 5, .int .i64 5]) (by simp [results, Tryz.results90, go_sem, r0, r1]) rfl ⟨_, _, rfl, ⟨by omega, by omega⟩, ⟨by omega, by omega⟩, (((hw2.mono (u' := u + 4) (by omega)).setOther (by omega) _).setOther (by omega) _), ((hE2.setNew (by omega) _ _).setNew (by omega) _ _)⟩
    · by_cases k1 : a = 1
      · subst k1
        obtain ⟨r0, r1, s0, s1, zR⟩ := blk2 hR2
        go_wp2_with fail
        exact bodyPost_ret (v := .agg #[.int .i64 (-1), .int .i64 5]) (by simp [results, Tryz.results90, go_sem, r0, r1]) rfl ⟨_, _, rfl, ⟨by omega, by omega⟩, ⟨by omega, by omega⟩, (((hw2.mono (u' := u + 4) (by omega)).setOther (by omega) _).setOther (by omega) _), ((hE2.setNew (by omega) _ _).setNew (by omega) _ _)⟩
      · obtain rfl : a = 2 := by omega
        obtain ⟨r0, r1, s0, s1, zR⟩ := blk2 hR2
        go_wp2_with fail
        exact bodyPost_ret (v := .agg #[.int .i64 5, .int .i64 101]) (by simp [results, Tryz.results90, go_sem, r0, r1]) rfl ⟨_, _, rfl, ⟨by omega, by omega⟩, ⟨by omega, by omega⟩, (((hw2.mono (u' := u + 4) (by omega)).setOther (by omega) _).setOther (by omega) _), ((hE2.setNew (by omega) _ _).setNew (by omega) _ _)⟩
def BlindIs (B : Nat) (u : Int) (w : World) (e : Ending) (w' : World) : Prop :=
  ∃ (s : Bool) (t : Int), e = .returned (.agg #[.bool s, .int .i64 t]) ∧ (-1 ≤ t ∧ t ≤ 21) ∧ RdU B u w' ∧ Ext B w w'
set_option maxRecDepth 100000 in
set_option maxHeartbeats 8000000 in
theorem blind_any (B : Nat) (u n : Int) (w : World) (h : RdU B u w) (hu : u ≤ 800000) (hn : 0 ≤ n) (hn1 : n ≤ 1000000) : Calls Tryz.prog 91 #[.pointer (some ⟨B, 0, none⟩), .int .i64 n] w (BlindIs B (u + 5) w) := by
  have hBw := h.lt
  go_enter Tryz.func91, Tryz.ntmps91
  go_wp2_with fail
  refine (pick_any B (_) 2 _ (h.alloc _) (by omega) (by omega) (by omega)).mono ?_; rintro e w1 ⟨a, rfl, a0, a1, hw1, hxw1⟩
  have hR := blk_ext (blk_new w (.cells #[.bool false, .int .i64 0] 31)) hxw1 (by omega)
  have hE := ((Ext.refl B w).alloc (.cells #[.bool false, .int .i64 0] 31)).trans hxw1
  go_wp2_with fail
  refine (pick_any B (_) 21 _ hw1 (by omega) (by omega) (by omega)).mono ?_; rintro e w2 ⟨c, rfl, c0, c1, hw2, hxw2⟩
  have hR2 := blk_ext hR hxw2 (by omega)
  have hE2 := hE.trans hxw2
  go_wp2_with fail
  have hB2 := hw2.lt
  refine (odd0_any B _ n _ (hw2.alloc _) (by omega) hn hn1).mono ?_; rintro e w3 ⟨b, rfl, hw3, hxw3⟩
  have hz2 := blk_lt hR2
  have hR3 := blk_ext (blk_old hR2 (.cells #[.bool (a == 0), .int .i64 c] 31)) hxw3 (by omega)
  have hE3 := (hE2.alloc (.cells #[.bool (a == 0), .int .i64 c] 31)).trans hxw3
  have hC := blk_ext (blk_new w2 (.cells #[.bool (a == 0), .int .i64 c] 31)) hxw3 (by omega)
  clear hR hE hw1 hxw1 hR2 hE2 hw2 hxw2 hxw3
  have hB3 := hw3.lt
  have hCz := blk_lt hC
  generalize w2.heap.size = C at *
  generalize (a == 0) = s at hC ⊢
  clear a0 a1
  cases b
  · obtain ⟨c0_, c1_, cf0, cf1, zC⟩ := blk2 hC
    obtain ⟨r0, r1, s0, s1, zR⟩ := blk2 hR3
    go_wp2_with fail
    exact bodyPost_ret (v := .agg #[.bool s, .int .i64 c]) (by simp [results, Tryz.results91, go_sem, r0, r1]) rfl ⟨_, _, rfl, ⟨by omega, by omega⟩, (((hw3.mono (u' := u + 5) (by omega)).setOther (by omega) _).setOther (by omega) _), ((hE3.setNew (by omega) _ _).setNew (by omega) _ _)⟩
  · go_wp2_with fail
    refine (pick_any B (_) 2 _ (hw3.alloc _) (by omega) (by omega) (by omega)).mono ?_; rintro e w4 ⟨d, rfl, d0, d1, hw4, hxw4⟩
    have hR4 := blk_ext (blk_old hR3 (.cells #[.int .i64 (-1), .int .i64 21] 3)) hxw4 (by omega)
    have hC4 := blk_ext (blk_old hC (.cells #[.int .i64 (-1), .int .i64 21] 3)) hxw4 (by omega)
    have hL := blk_ext (blk_new w3 (.cells #[.int .i64 (-1), .int .i64 21] 3)) hxw4 (by omega)
    have hE4 := (hE3.alloc (.cells #[.int .i64 (-1), .int .i64 21] 3)).trans hxw4
    have hB4 := hw4.lt
    obtain ⟨l0, l1, _, _, zL⟩ := blk2 hL
    obtain ⟨c0_, c1_, cf0, cf1, zC⟩ := blk2 hC4
    clear hR3 hE3 hw3 hxw4 hC
    generalize w3.heap.size = D at *
    by_cases k0 : d = 0
    · subst k0
      have hC5 := blk2_set1 (b := .int .i64 (-1)) hC4
      obtain ⟨e0, e1, ef0, ef1, zE⟩ := blk2 hC5
      have hR5 := blk_setOther (i := 1) hR4 (show w.heap.size ≠ C by omega) (.int .i64 (-1))
      have h5 := hw4.setOther (show B < C by omega) (i := 1) (.int .i64 (-1))
      have hE5 := hE4.setNew (show w.heap.size ≤ C by omega) 1 (.int .i64 (-1))
      obtain ⟨r0, r1, s0, s1, zR⟩ := blk2 hR5
      go_wp2_with fail
      exact bodyPost_ret (v := .agg #[.bool s, .int .i64 (-1)]) (by simp [results, Tryz.results91, go_sem, r0, r1]) rfl ⟨_, _, rfl, ⟨by omega, by omega⟩, (((h5.mono (u' := u + 5) (by omega)).setOther (by omega) _).setOther (by omega) _), ((hE5.setNew (by omega) _ _).setNew (by omega) _ _)⟩
    · obtain rfl : d = 1 := by omega
      have hC5 := blk2_set1 (b := .int .i64 21) hC4
      obtain ⟨e0, e1, ef0, ef1, zE⟩ := blk2 hC5
      have hR5 := blk_setOther (i := 1) hR4 (show w.heap.size ≠ C by omega) (.int .i64 21)
      have h5 := hw4.setOther (show B < C by omega) (i := 1) (.int .i64 21)
      have hE5 := hE4.setNew (show w.heap.size ≤ C by omega) 1 (.int .i64 21)
      obtain ⟨r0, r1, s0, s1, zR⟩ := blk2 hR5
      go_wp2_with fail
      exact bodyPost_ret (v := .agg #[.bool s, .int .i64 21]) (by simp [results, Tryz.results91, go_sem, r0, r1]) rfl ⟨_, _, rfl, ⟨by omega, by omega⟩, (((h5.mono (u' := u + 5) (by omega)).setOther (by omega) _).setOther (by omega) _), ((hE5.setNew (by omega) _ _).setNew (by omega) _ _)⟩
end Go.Proofs.YtbklgpghonigjaaGreat
