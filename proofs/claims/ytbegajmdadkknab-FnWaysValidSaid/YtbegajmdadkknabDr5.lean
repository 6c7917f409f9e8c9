/- What the laws of chapter 2 draw out of a code. -/
import Derived.Test.YtbegajmdadkknabDw
namespace Go.Proofs.Ytbegajmdadkknab
open Go.ChangeShapes Go.WideShapes Go.ChangeAt Go.RowKit
set_option linter.unusedSimpArgs false
set_option linter.unusedVariables false

def DrewW (w : World) (e : Ending) (w' : World) : Prop := ∃ a b : Int, e = .returned (.agg #[.int .i64 a, .int .i64 b]) ∧ -1001 ≤ a ∧ a ≤ 1001 ∧ -1001 ≤ b ∧ b ≤ 1001 ∧ Below w.heap.size w w'
def DrewTwo (w : World) (e : Ending) (w' : World) : Prop :=
  ∃ a b c d : Int, e = .returned (.tuple #[.agg #[.int .i64 a, .int .i64 b], .agg #[.int .i64 c, .int .i64 d]]) ∧ -1001 ≤ a ∧ a ≤ 1001 ∧ -1001 ≤ b ∧ b ≤ 1001 ∧ -3003 ≤ c ∧ c ≤ 3003 ∧ -3003 ≤ d ∧ d ≤ 3003 ∧ Below w.heap.size w w'
set_option maxHeartbeats 2000000 in
theorem drRoundLess_any (a : Option Addr) (len cap : Nat) (w : World) (h : CodeOk w a len cap) : Calls Try.prog 11 #[.slice a len cap] w (DrewTwo w) := by
  go_enter Try.func11, Try.ntmps11
  go_wp2_with fail
  refine (open_any _ _ _ _ (code_below h (bel2 _ _ _))).mono ?_; rintro e w1 ⟨B, rfl, hB, h1, hb1⟩
  obtain ⟨hH1, hG1, hB1⟩ := ownb2 hb1
  have hz1 := blk_lt hG1
  have hB' : w.heap.size + 1 < B := by simp at hB; omega
  clear hB
  go_wp2_with fail
  refine (two_any B 0 _ h1 (by omega)).mono ?_; rintro e w2 ⟨x, y, p, q, rfl, x0, x1, y0, y1, p0, p1, q0, q1, _, hx⟩
  have hH2 := blk_ext hH1 hx (by omega)
  have hG2 := blk_ext hG1 hx (by omega)
  have hB2 := hB1.trans (hx.below (N := w.heap.size) (by omega) (by omega))
  obtain ⟨c0, c1, f0, f1, hz⟩ := blk2 hH2
  obtain ⟨d0, d1, g0, g1, hz'⟩ := blk2 hG2
  have hG3 := blk_store2 (C := w.heap.size) hG2 (by omega) (.int .i64 x) (.int .i64 y)
  have hH3 := blk2_set (a := .int .i64 x) (b := .int .i64 y) hH2
  have hH4 := blk_store2 (C := w.heap.size + 1) hH3 (by omega) (.int .i64 p) (.int .i64 q)
  have hG4 := blk2_set (a := .int .i64 p) (b := .int .i64 q) hG3
  obtain ⟨j0, j1, k0, k1, hz3⟩ := blk2 hG3
  obtain ⟨m0, m1, _, _, _⟩ := blk2 hH4
  obtain ⟨n0, n1, _, _, _⟩ := blk2 hG4
  go_wp2
  exact bodyPost_ret (v := .tuple #[.agg #[.int .i64 x, .int .i64 y], .agg #[.int .i64 p, .int .i64 q]]) (by simp [results, Try.results11, go_sem, c0, c1, d0, d1, j0, j1, m0, m1, n0, n1]) rfl ⟨_, _, _, _, rfl, x0, x1, y0, y1, p0, p1, q0, q1, store2_bel (store2_bel hB2 (by omega) _ _) (by omega) _ _⟩
set_option maxHeartbeats 2000000 in
theorem drSameWay_any (a : Option Addr) (len cap : Nat) (w : World) (h : CodeOk w a len cap) : Calls Try.prog 16 #[.slice a len cap] w (DrewTwo w) := by
  go_enter Try.func16, Try.ntmps16
  go_wp2_with fail
  refine (open_any _ _ _ _ (code_below h (bel2 _ _ _))).mono ?_; rintro e w1 ⟨B, rfl, hB, h1, hb1⟩
  obtain ⟨hH1, hG1, hB1⟩ := ownb2 hb1
  have hz1 := blk_lt hG1
  have hB' : w.heap.size + 1 < B := by simp at hB; omega
  clear hB
  go_wp2_with fail
  refine (two_any B 0 _ h1 (by omega)).mono ?_; rintro e w2 ⟨x, y, p, q, rfl, x0, x1, y0, y1, p0, p1, q0, q1, _, hx⟩
  have hH2 := blk_ext hH1 hx (by omega)
  have hG2 := blk_ext hG1 hx (by omega)
  have hB2 := hB1.trans (hx.below (N := w.heap.size) (by omega) (by omega))
  obtain ⟨c0, c1, f0, f1, hz⟩ := blk2 hH2
  obtain ⟨d0, d1, g0, g1, hz'⟩ := blk2 hG2
  have hG3 := blk_store2 (C := w.heap.size) hG2 (by omega) (.int .i64 x) (.int .i64 y)
  have hH3 := blk2_set (a := .int .i64 x) (b := .int .i64 y) hH2
  have hH4 := blk_store2 (C := w.heap.size + 1) hH3 (by omega) (.int .i64 p) (.int .i64 q)
  have hG4 := blk2_set (a := .int .i64 p) (b := .int .i64 q) hG3
  obtain ⟨j0, j1, k0, k1, hz3⟩ := blk2 hG3
  obtain ⟨m0, m1, _, _, _⟩ := blk2 hH4
  obtain ⟨n0, n1, _, _, _⟩ := blk2 hG4
  go_wp2
  exact bodyPost_ret (v := .tuple #[.agg #[.int .i64 x, .int .i64 y], .agg #[.int .i64 p, .int .i64 q]]) (by simp [results, Try.results16, go_sem, c0, c1, d0, d1, j0, j1, m0, m1, n0, n1]) rfl ⟨_, _, _, _, rfl, x0, x1, y0, y1, p0, p1, q0, q1, store2_bel (store2_bel hB2 (by omega) _ _) (by omega) _ _⟩
end Go.Proofs.Ytbegajmdadkknab
