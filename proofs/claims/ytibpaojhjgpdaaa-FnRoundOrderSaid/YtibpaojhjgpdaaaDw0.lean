/- Lists of ways that are drawn out of a code. -/
import Derived.Test.YtibpaojhjgpdaaaDr5
import Derived.Test.YtibpaojhjgpdaaaWs
import Derived.Deep.AppendLies
import Derived.OwnWalk
namespace Go.Proofs.Ytibpaojhjgpdaaa
open Go.ChangeShapes Go.WideShapes Go.ChangeAt Go.RowKit
set_option linter.unusedSimpArgs false
set_option linter.unusedVariables false

theorem odd_any0 (B : Nat) (u n : Int) (w : World) (h : RdU B u w) (hu : u ≤ 900000) (hn : 0 ≤ n) (hn1 : n ≤ 1000000) :
    Calls Try.prog 67 #[.pointer (some ⟨B, 0, none⟩), .int .i64 n] w (BoolIs B (u + 1) w) := by
  by_cases h0 : n = 0
  · subst h0
    go_enter Try.func67, Try.ntmps67
    go_wp2
    go_ret
    exact ⟨_, rfl, h.mono (by omega), Ext.refl _ _⟩
  · exact odd_any B u n w h hu (by omega) hn1
set_option maxRecDepth 100000 in
set_option maxHeartbeats 8000000 in
theorem way_any0 (B : Nat) (u n : Int) (w : World) (h : RdU B u w) (hu : u ≤ 800000) (hn : 0 ≤ n) (hn1 : n ≤ 1000000) :
    Calls Try.prog 70 #[.pointer (some ⟨B, 0, none⟩), .int .i64 n] w (WayIs B (u + 8) 1001 w) := by
  have hBw := h.lt
  go_enter Try.func70, Try.ntmps70
  go_wp2_with fail
  refine (pick_any B u 12 _ (h.alloc _) (by omega) (by omega) (by omega)).mono ?_; rintro e w1 ⟨a1, rfl, a10, a11, h1, hx1⟩
  go_wp2_with fail
  refine (pick_any B (u + 1) _ _ h1 (by omega) (by omega) (by omega)).mono ?_; rintro e w2 ⟨a2, rfl, a20, a21, h2, hx2⟩
  go_wp2_with fail
  refine (pick_any B (u + 1 + 1) _ _ h2 (by omega) (by omega) (by omega)).mono ?_; rintro e w3 ⟨a3, rfl, a30, a31, h3, hx3⟩
  go_wp2_with fail
  have hB1 := h1.lt
  have hB3 := h3.lt
  refine (pick_any B (u + 1 + 1 + 1) 6 _ (h3.alloc _) (by omega) (by omega) (by omega)).mono ?_; rintro e w4 ⟨a4, rfl, a40, a41, h4, hx4⟩
  have hR3 := blk_ext (blk_ext (blk_ext (blk_new w _) hx1 (by omega)) hx2 (by omega)) hx3 (by omega)
  have hRC := blk_lt hR3
  have hR := blk_ext (blk_old hR3 _) hx4 (by omega)
  have hC := blk_ext (blk_new w3 _) hx4 (by omega)
  have hE : Ext B w w4 := (((((Ext.refl B w).alloc _).trans hx1).trans hx2).trans hx3 |>.alloc _).trans hx4
  clear hx1 hx2 hx3 hx4 hR3 h1 h2 h3 hB1
  generalize w3.heap.size = C at *
  go_upto_if 27 with fail
  go_cut [] (fun wx => WayAt C 12 wx ∧ wx.heap[w.heap.size]? = some (.cells #[.int .i64 0, .int .i64 0] 32 (0, 0)) ∧ RdU B (u + 5) wx ∧ Ext B w wx)
  case first =>
    obtain ⟨c0, c1, f0, f1, hz⟩ := blk2 hC
    by_cases k0 : a4 = 0
    · subst k0
      go_wp2_with fail
      go_meet
      exact ⟨⟨_, _, blk2_set0 hC, by omega, by omega, by omega, by omega⟩, blk_setOther hR (by omega) _, (h4.mono (by omega)).setOther (by omega) _, hE.setNew (by omega) _ _⟩
    · have e0 : (a4 == 0) = false := by rw [beq_eq_false_iff_ne]; omega
      clear k0
      go_wp2_with fail
      refine (pick_any B _ 6 _ h4 (by omega) (by omega) (by omega)).mono ?_; rintro e w5 ⟨a5, rfl, a50, a51, h5, hx5⟩
      have hC5 := blk_ext hC hx5 (by omega)
      have hR5 := blk_ext hR hx5 (by omega)
      have hE5 := hE.trans hx5
      obtain ⟨d0, d1, g0, g1, hz5⟩ := blk2 hC5
      by_cases k1 : a5 = 0
      · subst k1
        go_wp2_with fail
        go_meet
        exact ⟨⟨_, _, blk2_set1 hC5, by omega, by omega, by omega, by omega⟩, blk_setOther hR5 (by omega) _, (h5.mono (by omega)).setOther (by omega) _, hE5.setNew (by omega) _ _⟩
      · have e1 : (a5 == 0) = false := by rw [beq_eq_false_iff_ne]; omega
        clear k1
        go_wp2_with fail
        go_meet
        exact ⟨⟨_, _, hC5, by omega, by omega, by omega, by omega⟩, hR5, h5.mono (by omega), hE5⟩
  case rest =>
    clear hC hR hE h4
    obtain ⟨⟨p, q, hC, p0, p1, q0, q1⟩, hR, h5, hE⟩ := hcut
    go_wp2_with fail
    refine (odd_any0 B (u + 5) n _ h5 (by omega) hn hn1).mono ?_; rintro e w6 ⟨b, rfl, h6, hx6⟩
    have hC6 := blk_ext hC hx6 (by omega)
    have hR6 := blk_ext hR hx6 (by omega)
    have hE6 := hE.trans hx6
    clear hC hR hE h5 hx6
    go_upto_if 35 with fail
    go_cut [] (fun wx => WayAt C 1001 wx ∧ wx.heap[w.heap.size]? = some (.cells #[.int .i64 0, .int .i64 0] 32 (0, 0)) ∧ RdU B (u + 8) wx ∧ Ext B w wx)
    case first =>
      cases b
      · go_wp2_with fail
        go_meet
        exact ⟨⟨_, _, hC6, by omega, by omega, by omega, by omega⟩, hR6, h6.mono (by omega), hE6⟩
      · go_wp2_with fail
        have hz6 := h6.lt
        have hc6 := blk_lt hC6
        refine (pick_any B _ 2 _ (h6.alloc _) (by omega) (by omega) (by omega)).mono ?_; rintro e w7 ⟨b2, rfl, b20, b21, h7, hx7⟩
        have hC7 := blk_ext (blk_old hC6 _) hx7 (by omega)
        have hR7 := blk_ext (blk_old hR6 _) hx7 (by omega)
        obtain ⟨v, hv, v0, v1⟩ := blk_int_at [-1001, 1001] (blk_ext (blk_new w6 _) hx7 (by omega)) (-1001) 1001 (by decide) b2.toNat (by simp; omega)
        obtain ⟨c0, c1, f0, f1, hz⟩ := blk2 hC7
        have hE7 := (hE6.alloc _).trans hx7
        go_wp2_with fail
        go_meet
        exact ⟨⟨_, _, blk2_set0 hC7, by omega, by omega, by omega, by omega⟩, blk_setOther hR7 (by omega) _, (h7.mono (by omega)).setOther (by omega) _, hE7.setNew (by omega) _ _⟩
    case rest =>
      obtain ⟨⟨y, m, hC, y0, y1, m0, m1⟩, hR, h7, hE⟩ := hcut
      obtain ⟨c0, c1, f0, f1, hz⟩ := blk2 hC
      obtain ⟨q0, q1, p0, p1, hz⟩ := blk2 hR
      go_wp2_with fail
      exact bodyPost_ret (v := .agg #[.int .i64 y, .int .i64 m]) (by simp [results, Try.results70, go_sem, q0, q1]) rfl ⟨_, _, rfl, y0, y1, m0, m1, ((((h7.mono (by omega)).setOther (by omega) _).setOther (by omega) _)), (hE.setNew (by omega) _ _).setNew (by omega) _ _⟩
theorem Ext.grown {B : Nat} {w w' : World} (h : Ext B w w') : w.grownBy w' (some B) := ⟨h.os, h.tape, h.output, h.size, fun k hk hne => h.block k hk (fun e => hne (by rw [e]))⟩
theorem Ext.of_grown {B : Nat} {a w w' : World} {row : Option Nat} (h : Ext B a w) (hg : w.grownBy w' row) (hr : ∀ g, row = some g → a.heap.size ≤ g) : Ext B a w' :=
  ⟨hg.os.trans h.os, hg.tape.trans h.tape, hg.output.trans h.output, Nat.le_trans h.size hg.size, fun k hk hne => (hg.block k (Nat.lt_of_lt_of_le hk h.size) (fun e => by have := hr k e.symm; omega)).trans (h.block k hk hne)⟩
theorem RdU.grown {B : Nat} {u : Int} {w w' : World} {row : Option Nat} (h : RdU B u w) (hg : w.grownBy w' row) (hr : ∀ g, row = some g → B < g) : RdU B u w' := by
  have hlt := h.lt
  obtain ⟨sl, p, h1, h2, h3, h4⟩ := h
  refine ⟨sl, p, (hg.block B hlt (fun e => by have := hr B e.symm; omega)).trans h1, h2, h3, ?_⟩
  rcases h4 with h4 | ⟨b, off, len, cap, e, k1, k2, k3, k4⟩
  · exact .inl h4
  · refine .inr ⟨b, off, len, cap, e, k1, k2, k3, fun i hi => ?_⟩
    obtain ⟨v, g1, g2⟩ := k4 i hi
    exact ⟨v, by rw [hg.cell_far ⟨b, off + i, none⟩ (by show b < _; omega) (fun e => by have := hr b e.symm; omega)]; exact g1, g2⟩
/-- A row of ways of the call's own. -/
def Own (w : World) (base : Nat) (g cap : Nat) (xs : List (Int × Int)) : Prop := w.ownsRow base 32 2 (.slice (some ⟨g, 0, none⟩) xs.length cap) xs.length (flat xs)
theorem Own.base {w : World} {base g cap : Nat} {xs : List (Int × Int)} (h : Own w base g cap xs) : base ≤ g ∧ g < w.heap.size := World.ownsRow.lt h g rfl
theorem Own.ext {w w' : World} {base g cap B : Nat} {xs : List (Int × Int)} (h : Own w base g cap xs) (hx : Ext B w w') (hne : g ≠ B) : Own w' base g cap xs :=
  World.ownsRow.kept h hx.grown (.inr (by simp [Value.ownBlock]; exact hne))
theorem Own.next {w w' : World} {base g cap : Nat} {xs : List (Int × Int)} (h : Own w base g cap xs) (hx : Below w.heap.size w w') : Own w' base g cap xs :=
  World.ownsRow.kept (row := none) h ⟨hx.os, hx.tape, hx.output, hx.size, fun k hk _ => hx.block k hk⟩ (.inr (by simp [Value.ownBlock]))
theorem Own.cell {w : World} {base g cap : Nat} {xs : List (Int × Int)} (h : Own w base g cap xs) (i : Nat) (hi : i < xs.length) : w.cell? ⟨g, i * 2, none⟩ = some (.int .i64 xs[i].1) ∧ w.cell? ⟨g, i * 2 + 1, none⟩ = some (.int .i64 xs[i].2) := by
  have h1 := World.ownsRow.cellAt h (i * 2) (by omega)
  have h2 := World.ownsRow.cellAt h (i * 2 + 1) (by omega)
  rw [h1, h2, show i * 2 = 2 * i by omega]
  exact ⟨flat_even xs i hi, flat_odd xs i hi⟩
theorem Own.row {w : World} {base g cap : Nat} {xs : List (Int × Int)} (h : Own w base g cap xs) : WRow w (some ⟨g, 0, none⟩) xs :=
  .inr ⟨g, 0, rfl, fun i hi => by have := h.cell i hi; simpa using this⟩
theorem flat_snoc (xs : List (Int × Int)) (a b : Int) : flat xs ++ [.int .i64 a, .int .i64 b] = flat (xs ++ [(a, b)]) := by
  induction xs with
  | nil => rfl
  | cons p r ih => simp [flat, ← ih]
end Go.Proofs.Ytibpaojhjgpdaaa
