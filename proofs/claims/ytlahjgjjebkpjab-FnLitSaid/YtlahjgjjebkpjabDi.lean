/- What the laws of lists of blocks draw. -/
import Derived.Test.YtlahjgjjebkpjabDd
import Derived.Test.YtlahjgjjebkpjabDg
namespace Go.Proofs.Ytlahjgjjebkpjab
open Go Go.ChangeShapes Go.WideShapes Go.ChangeAt Go.RowKit
set_option linter.unusedSimpArgs false
set_option linter.unusedVariables false

theorem SOwn.set_far {α : Type} {E : Enc α} {w : World} {base C i : Nat} {T : TypeId} {A : Option Addr} {cap : Nat} {xs : List α} (h : SOwn E w base T A cap xs) (hC : C < base) (v : Value) : SOwn E (w.setCell ⟨C, i, none⟩ v) base T A cap xs := by
  refine h.grown_far (row := some C) (setAll_grown [v] i ⟨rfl, rfl, rfl, Nat.le_refl _, fun _ _ _ => rfl⟩) (fun g hg e => ?_)
  rcases h.form with ⟨e2, _⟩ | ⟨g2, e2, hb, _⟩
  · rw [e2] at hg; cases hg
  · rw [e2] at hg; cases hg; cases e; omega
def DrewBlocks (w : World) (e : Ending) (w' : World) : Prop := ∃ (xs : List VBlock) (A : Option Addr) (cap : Nat), e = .returned (.slice A xs.length cap) ∧ xs.length ≤ 6 ∧ SOwn encBlock w' w.heap.size 26 A cap xs ∧ Below w.heap.size w w'
set_option maxHeartbeats 2000000 in
theorem drBlocksValid_any (a : Option Addr) (len cap : Nat) (w : World) (h : CodeOk w a len cap) : Calls Try.prog 32 #[.slice a len cap] w (DrewBlocks w) := by
  go_enter Try.func32, Try.ntmps32
  go_wp2_with fail
  refine (open_any _ _ _ _ h).mono ?_; rintro e w1 ⟨B, rfl, hB, h1, hb1⟩
  go_wp2_with fail
  refine (blocks_any B 0 2 _ h1 (by omega) (by omega) (by omega)).mono ?_; rintro e w2 ⟨xs, A, cp, rfl, hx6, hO, _, hx⟩
  have hB2 := hb1.trans (hx.below (N := w.heap.size) (by omega) hb1.size)
  have hO2 := hO.mono hb1.size
  go_wp2_with fail
  go_ret
  exact ⟨xs, A, cp, rfl, hx6, hO2, hB2⟩
def DrewLit (w : World) (e : Ending) (w' : World) : Prop := ∃ (p0 p1 r0 r1 r2 : Int) (xs : List VBlock) (A : Option Addr) (cap : Nat), e = .returned (.tuple #[.agg #[.int .i64 p0, .int .i64 p1], .slice A xs.length cap, .agg #[.int .i64 r0, .int .i64 r1, .int .i64 r2]]) ∧ (-200 ≤ p0 ∧ p0 ≤ 200) ∧ (-200 ≤ p1 ∧ p1 ≤ 200) ∧ (-200 ≤ r0 ∧ r0 ≤ 200) ∧ (-200 ≤ r1 ∧ r1 ≤ 200) ∧ (-200 ≤ r2 ∧ r2 ≤ 200) ∧ xs.length ≤ 6 ∧ SOwn encBlock w' w.heap.size 26 A cap xs ∧ Below w.heap.size w w'
set_option maxRecDepth 100000 in
set_option maxHeartbeats 8000000 in
theorem drLit_any (a : Option Addr) (len cap : Nat) (w : World) (h : CodeOk w a len cap) : Calls Try.prog 35 #[.slice a len cap] w (DrewLit w) := by
  have hX1 := code_below h (bel2 w (.cells #[.int .i64 0, .int .i64 0] 24 (0, 0)) (.cells #[.int .i64 0, .int .i64 0, .int .i64 0] 28 (0, 0)))
  go_enter Try.func35, Try.ntmps35
  go_wp2_with fail
  refine (open_any _ _ _ _ hX1).mono ?_; rintro e w1 ⟨B, rfl, hB, h1, hb1⟩
  clear hX1
  obtain ⟨hX1, hY1, hB1⟩ := ownb2 hb1
  have hz1 := blk_lt hY1
  have hB' : w.heap.size + 1 < B := by simp at hB; omega
  clear hB
  have hE1 : Ext B w1 w1 := Ext.refl B w1
  go_wp2_with fail
  refine (place_any B 0 14 _ h1 (by omega) (by omega) (by omega)).mono ?_; rintro e w2 ⟨p0, p1, rfl, ⟨p0_0, p0_1⟩, ⟨p1_0, p1_1⟩, h2, hx2⟩
  have hX2 := blk_ext hX1 hx2 (by omega)
  have hY2 := blk_ext hY1 hx2 (by omega)
  have hE2 := hE1.trans hx2
  have hBs := h2.lt
  have hYs := blk_lt hY2
  go_wp2_with fail
  refine (blocks_any B (0 + 4) 14 _ h2 (by omega) (by omega) (by omega)).mono ?_; rintro e w3 ⟨xs, AX, cx, rfl, hx6, hO3, h3, hx3⟩
  have hX3 := blk_ext hX2 hx3 (by omega)
  have hY3 := blk_ext hY2 hx3 (by omega)
  have hE3 := hE2.trans hx3
  go_wp2_with fail
  refine (ray_any B (0 + 4 + 51) 14 _ h3 (by omega) (by omega) (by omega)).mono ?_; rintro e w4 ⟨r0, r1, r2, rfl, ⟨r0_0, r0_1⟩, ⟨r1_0, r1_1⟩, ⟨r2_0, r2_1⟩, h4, hx4⟩
  have hX4 := blk_ext hX3 hx4 (by omega)
  have hY4 := blk_ext hY3 hx4 (by omega)
  have hE4 := hE3.trans hx4
  have hO4 := hO3.ext hx4 hBs
  have hBl := hB1.trans (hE4.below (N := w.heap.size) (by omega) (by omega))
  clear hE1 h1 hE2 h2 hE3 h3 hE4 h4
  clear hX1 hY1 hX2 hY2 hX3 hY3
  have n_XY : w.heap.size ≠ w.heap.size + 1 := by omega
  have n_YX : w.heap.size + 1 ≠ w.heap.size := by omega
  have e_X : w.heap.size ≤ w.heap.size := by omega
  have e_Y : w.heap.size ≤ w.heap.size + 1 := by omega
  have l_X : w.heap.size < w2.heap.size := by omega
  have l_Y : w.heap.size + 1 < w2.heap.size := by omega
  obtain ⟨_, _, _, _, _⟩ := blk2 hX4
  obtain ⟨_, _, _, _, _, _, _⟩ := blk3 hY4
  go_wp2_with fail
  have tX1 := blk2_at0 (v := .int .i64 p0) hX4
  have tY1 := blk_setOther (i := 0) hY4 n_YX (.int .i64 p0)
  have tB1 := below_alls hBl e_X 0 (.int .i64 p0)
  have tO1 := hO4.set_far (i := 0) l_X (.int .i64 p0)
  have tX2 := blk2_at1 (v := .int .i64 p1) tX1
  have tY2 := blk_setOther (i := 1) tY1 n_YX (.int .i64 p1)
  have tB2 := below_alls tB1 e_X 1 (.int .i64 p1)
  have tO2 := tO1.set_far (i := 1) l_X (.int .i64 p1)
  have tX3 := blk_setOther (i := 0) tX2 n_XY (.int .i64 r0)
  have tY3 := blk3_at0 (v := .int .i64 r0) tY2
  have tB3 := below_alls tB2 e_Y 0 (.int .i64 r0)
  have tO3 := tO2.set_far (i := 0) l_Y (.int .i64 r0)
  have tX4 := blk_setOther (i := 1) tX3 n_XY (.int .i64 r1)
  have tY4 := blk3_at1 (v := .int .i64 r1) tY3
  have tB4 := below_alls tB3 e_Y 1 (.int .i64 r1)
  have tO4 := tO3.set_far (i := 1) l_Y (.int .i64 r1)
  have tX5 := blk_setOther (i := 2) tX4 n_XY (.int .i64 r2)
  have tY5 := blk3_at2 (v := .int .i64 r2) tY4
  have tB5 := below_alls tB4 e_Y 2 (.int .i64 r2)
  have tO5 := tO4.set_far (i := 2) l_Y (.int .i64 r2)
  clear tX1 tX2 tX3 tX4 tY1 tY2 tY3 tY4 tB1 tB2 tB3 tB4 tO1 tO2 tO3 tO4
  generalize (World.setCell (World.setCell (World.setCell (World.setCell (World.setCell w4 ⟨w.heap.size, 0, none⟩ (.int .i64 p0)) ⟨w.heap.size, 1, none⟩ (.int .i64 p1)) ⟨w.heap.size + 1, 0, none⟩ (.int .i64 r0)) ⟨w.heap.size + 1, 1, none⟩ (.int .i64 r1)) ⟨w.heap.size + 1, 2, none⟩ (.int .i64 r2)) = wq at tX5 tY5 tB5 tO5 ⊢
  obtain ⟨x0_, x1_, _, _, _⟩ := blk2 tX5
  obtain ⟨y0_, y1_, y2_, _, _, _, _⟩ := blk3 tY5
  exact bodyPost_ret (v := .tuple #[.agg #[.int .i64 p0, .int .i64 p1], .slice AX xs.length cx, .agg #[.int .i64 r0, .int .i64 r1, .int .i64 r2]]) (by simp [results, Try.results35, go_sem, x0_, x1_, y0_, y1_, y2_]) rfl ⟨_, _, _, _, _, xs, AX, cx, rfl, ⟨by omega, by omega⟩, ⟨by omega, by omega⟩, ⟨by omega, by omega⟩, ⟨by omega, by omega⟩, ⟨by omega, by omega⟩, hx6, tO5.mono (by omega), tB5⟩
end Go.Proofs.Ytlahjgjjebkpjab
