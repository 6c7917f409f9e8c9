/- What the laws of chapter 5 draw: several things. -/
import Derived.Test.YtlahjgjjebkpjaaDc
namespace Go.Proofs.Ytlahjgjjebkpjaa
open Go Go.ChangeShapes Go.WideShapes Go.ChangeAt Go.RowKit
set_option linter.unusedSimpArgs false
set_option linter.unusedVariables false

theorem below_alls {w0 w : World} {C : Nat} (h : Below w0.heap.size w0 w) (hC : w0.heap.size ≤ C) (i : Nat) (v : Value) : Below w0.heap.size w0 (w.setCell ⟨C, i, none⟩ v) := h.setCell (p := ⟨C, i, none⟩) hC v
def DrewInShadow (w : World) (e : Ending) (w' : World) : Prop := ∃ p0 p1 b0 b1 b2 b3 b4 r0 r1 r2 : Int, e = .returned (.tuple #[.agg #[.int .i64 p0, .int .i64 p1], .agg #[.int .i64 b0, .int .i64 b1, .int .i64 b2, .int .i64 b3, .int .i64 b4], .agg #[.int .i64 r0, .int .i64 r1, .int .i64 r2]]) ∧ (-200 ≤ p0 ∧ p0 ≤ 200) ∧ (-200 ≤ p1 ∧ p1 ≤ 200) ∧ (-200 ≤ b0 ∧ b0 ≤ 200) ∧ (-200 ≤ b1 ∧ b1 ≤ 200) ∧ (-200 ≤ b2 ∧ b2 ≤ 200) ∧ (-200 ≤ b3 ∧ b3 ≤ 200) ∧ (-200 ≤ b4 ∧ b4 ≤ 200) ∧ (-200 ≤ r0 ∧ r0 ≤ 200) ∧ (-200 ≤ r1 ∧ r1 ≤ 200) ∧ (-200 ≤ r2 ∧ r2 ≤ 200) ∧ Below w.heap.size w w'
def DrewHeightFor (w : World) (e : Ending) (w' : World) : Prop := ∃ p0 p1 b0 b1 b2 b3 b4 r0 r1 r2 : Int, e = .returned (.tuple #[.agg #[.int .i64 p0, .int .i64 p1], .agg #[.int .i64 b0, .int .i64 b1, .int .i64 b2, .int .i64 b3, .int .i64 b4], .agg #[.int .i64 r0, .int .i64 r1, .int .i64 r2]]) ∧ (-200 ≤ p0 ∧ p0 ≤ 200) ∧ (-200 ≤ p1 ∧ p1 ≤ 200) ∧ (-200 ≤ b0 ∧ b0 ≤ 200) ∧ (-200 ≤ b1 ∧ b1 ≤ 200) ∧ (-200 ≤ b2 ∧ b2 ≤ 200) ∧ (-200 ≤ b3 ∧ b3 ≤ 200) ∧ (-200 ≤ b4 ∧ b4 ≤ 200) ∧ (-200 ≤ r0 ∧ r0 ≤ 200) ∧ (-200 ≤ r1 ∧ r1 ≤ 200) ∧ (-200 ≤ r2 ∧ r2 ≤ 200) ∧ Below w.heap.size w w'
def DrewCornersOf (w : World) (e : Ending) (w' : World) : Prop := ∃ b0 b1 b2 b3 b4 r0 r1 r2 : Int, e = .returned (.tuple #[.agg #[.int .i64 b0, .int .i64 b1, .int .i64 b2, .int .i64 b3, .int .i64 b4], .agg #[.int .i64 r0, .int .i64 r1, .int .i64 r2]]) ∧ (-200 ≤ b0 ∧ b0 ≤ 200) ∧ (-200 ≤ b1 ∧ b1 ≤ 200) ∧ (-200 ≤ b2 ∧ b2 ≤ 200) ∧ (-200 ≤ b3 ∧ b3 ≤ 200) ∧ (-200 ≤ b4 ∧ b4 ≤ 200) ∧ (-200 ≤ r0 ∧ r0 ≤ 200) ∧ (-200 ≤ r1 ∧ r1 ≤ 200) ∧ (-200 ≤ r2 ∧ r2 ≤ 200) ∧ Below w.heap.size w w'
def DrewCasts (w : World) (e : Ending) (w' : World) : Prop := ∃ b0 b1 b2 b3 b4 c0 c1 c2 c3 c4 r0 r1 r2 : Int, e = .returned (.tuple #[.agg #[.int .i64 b0, .int .i64 b1, .int .i64 b2, .int .i64 b3, .int .i64 b4], .agg #[.int .i64 c0, .int .i64 c1, .int .i64 c2, .int .i64 c3, .int .i64 c4], .agg #[.int .i64 r0, .int .i64 r1, .int .i64 r2]]) ∧ (-200 ≤ b0 ∧ b0 ≤ 200) ∧ (-200 ≤ b1 ∧ b1 ≤ 200) ∧ (-200 ≤ b2 ∧ b2 ≤ 200) ∧ (-200 ≤ b3 ∧ b3 ≤ 200) ∧ (-200 ≤ b4 ∧ b4 ≤ 200) ∧ (-200 ≤ c0 ∧ c0 ≤ 200) ∧ (-200 ≤ c1 ∧ c1 ≤ 200) ∧ (-200 ≤ c2 ∧ c2 ≤ 200) ∧ (-200 ≤ c3 ∧ c3 ≤ 200) ∧ (-200 ≤ c4 ∧ c4 ≤ 200) ∧ (-200 ≤ r0 ∧ r0 ≤ 200) ∧ (-200 ≤ r1 ∧ r1 ≤ 200) ∧ (-200 ≤ r2 ∧ r2 ≤ 200) ∧ Below w.heap.size w w'
def DrewLowestUp (w : World) (e : Ending) (w' : World) : Prop := ∃ p0 p1 b0 b1 b2 b3 b4 r0 r1 r2 : Int, e = .returned (.tuple #[.agg #[.int .i64 p0, .int .i64 p1], .agg #[.int .i64 b0, .int .i64 b1, .int .i64 b2, .int .i64 b3, .int .i64 b4], .int .i64 r0, .int .i64 r1]) ∧ (-200 ≤ p0 ∧ p0 ≤ 200) ∧ (-200 ≤ p1 ∧ p1 ≤ 200) ∧ (-200 ≤ b0 ∧ b0 ≤ 200) ∧ (-200 ≤ b1 ∧ b1 ≤ 200) ∧ (-200 ≤ b2 ∧ b2 ≤ 200) ∧ (-200 ≤ b3 ∧ b3 ≤ 200) ∧ (-200 ≤ b4 ∧ b4 ≤ 200) ∧ (-200 ≤ r0 ∧ r0 ≤ 200) ∧ (-200 ≤ r1 ∧ r1 ≤ 200) ∧ (-200 ≤ r2 ∧ r2 ≤ 200) ∧ Below w.heap.size w w'
def DrewUnderBlock (w : World) (e : Ending) (w' : World) : Prop := ∃ p0 p1 b0 b1 b2 b3 b4 r0 r1 r2 : Int, e = .returned (.tuple #[.agg #[.int .i64 p0, .int .i64 p1], .agg #[.int .i64 b0, .int .i64 b1, .int .i64 b2, .int .i64 b3, .int .i64 b4]]) ∧ (-200 ≤ p0 ∧ p0 ≤ 200) ∧ (-200 ≤ p1 ∧ p1 ≤ 200) ∧ (-200 ≤ b0 ∧ b0 ≤ 200) ∧ (-200 ≤ b1 ∧ b1 ≤ 200) ∧ (-200 ≤ b2 ∧ b2 ≤ 200) ∧ (-200 ≤ b3 ∧ b3 ≤ 200) ∧ (-200 ≤ b4 ∧ b4 ≤ 200) ∧ (-200 ≤ r0 ∧ r0 ≤ 200) ∧ (-200 ≤ r1 ∧ r1 ≤ 200) ∧ (-200 ≤ r2 ∧ r2 ≤ 200) ∧ Below w.heap.size w w'
set_option maxRecDepth 100000 in
set_option maxHeartbeats 8000000 in
theorem drUnderBlock_any (a : Option Addr) (len cap : Nat) (w : World) (h : CodeOk w a len cap) : Calls Try.prog 28 #[.slice a len cap] w (DrewUnderBlock w) := by
  have hX1 := code_below h (bel2 w (.cells #[.int .i64 0, .int .i64 0] 24 (0, 0)) (.cells #[.int .i64 0, .int .i64 0, .int .i64 0, .int .i64 0, .int .i64 0] 30 (0, 0)))
  go_enter Try.func28, Try.ntmps28
  go_wp2_with fail
  refine (open_any _ _ _ _ hX1).mono ?_; rintro e w1 ⟨B, rfl, hB, h1, hb1⟩
  clear hX1
  obtain ⟨hX1, hY1, hB1⟩ := ownb2 hb1
  have hz1 := blk_lt hY1
  have hB' : w.heap.size + 1 < B := by simp at hB; omega
  clear hB
  have hE1 : Ext B w1 w1 := Ext.refl B w1
  go_wp2_with fail
  refine (shaded_any B 0 14 _ h1 (by omega) (by omega) (by omega)).mono ?_; rintro e w2 ⟨p0, p1, b0, b1, b2, b3, b4, r0, r1, r2, rfl, ⟨p0_0, p0_1⟩, ⟨p1_0, p1_1⟩, ⟨b0_0, b0_1⟩, ⟨b1_0, b1_1⟩, ⟨b2_0, b2_1⟩, ⟨b3_0, b3_1⟩, ⟨b4_0, b4_1⟩, ⟨r0_0, r0_1⟩, ⟨r1_0, r1_1⟩, ⟨r2_0, r2_1⟩, h2, hx2⟩
  have hX2 := blk_ext hX1 hx2 (by omega)
  have hY2 := blk_ext hY1 hx2 (by omega)
  have hE2 := hE1.trans hx2
  have hBl := hB1.trans (hE2.below (N := w.heap.size) (by omega) (by omega))
  clear hE1 h1
  clear hE2 h2
  clear hX1 hY1
  have n_XY : w.heap.size ≠ w.heap.size + 1 := by omega
  have n_YX : w.heap.size + 1 ≠ w.heap.size := by omega
  have e_X : w.heap.size ≤ w.heap.size := by omega
  have e_Y : w.heap.size ≤ w.heap.size + 1 := by omega
  obtain ⟨_, _, _, _, _⟩ := blk2 hX2
  obtain ⟨_, _, _, _, _, _, _, _, _, _, _⟩ := blk5 hY2
  go_wp2_with fail
  have hK := blk_old (blk_old (blk_new w2 (.cells #[.int .i64 p0, .int .i64 p1] 24 (0, 0))) (.cells #[.int .i64 b0, .int .i64 b1, .int .i64 b2, .int .i64 b3, .int .i64 b4] 30 (0, 0))) (.cells #[.int .i64 r0, .int .i64 r1, .int .i64 r2] 34 (0, 0))
  have hL := blk_old (new2 w2 (.cells #[.int .i64 p0, .int .i64 p1] 24 (0, 0)) (.cells #[.int .i64 b0, .int .i64 b1, .int .i64 b2, .int .i64 b3, .int .i64 b4] 30 (0, 0))) (.cells #[.int .i64 r0, .int .i64 r1, .int .i64 r2] 34 (0, 0))
  have hM := new3 w2 (.cells #[.int .i64 p0, .int .i64 p1] 24 (0, 0)) (.cells #[.int .i64 b0, .int .i64 b1, .int .i64 b2, .int .i64 b3, .int .i64 b4] 30 (0, 0)) (.cells #[.int .i64 r0, .int .i64 r1, .int .i64 r2] 34 (0, 0))
  have gX := blk_old (blk_old (blk_old hX2 (.cells #[.int .i64 p0, .int .i64 p1] 24 (0, 0))) (.cells #[.int .i64 b0, .int .i64 b1, .int .i64 b2, .int .i64 b3, .int .i64 b4] 30 (0, 0))) (.cells #[.int .i64 r0, .int .i64 r1, .int .i64 r2] 34 (0, 0))
  have gY := blk_old (blk_old (blk_old hY2 (.cells #[.int .i64 p0, .int .i64 p1] 24 (0, 0))) (.cells #[.int .i64 b0, .int .i64 b1, .int .i64 b2, .int .i64 b3, .int .i64 b4] 30 (0, 0))) (.cells #[.int .i64 r0, .int .i64 r1, .int .i64 r2] 34 (0, 0))
  have gB := ((hBl.alloc hBl.size (.cells #[.int .i64 p0, .int .i64 p1] 24 (0, 0))).alloc (by have := hBl.size; simp; omega) (.cells #[.int .i64 b0, .int .i64 b1, .int .i64 b2, .int .i64 b3, .int .i64 b4] 30 (0, 0))).alloc (by have := hBl.size; simp; omega) (.cells #[.int .i64 r0, .int .i64 r1, .int .i64 r2] 34 (0, 0))
  obtain ⟨_, _, _, _, _⟩ := blk2 hK
  obtain ⟨_, _, _, _, _, _, _, _, _, _, _⟩ := blk5 hL
  obtain ⟨_, _, _, _, _, _, _⟩ := blk3 hM
  obtain ⟨_, _, _, _, _⟩ := blk2 gX
  obtain ⟨_, _, _, _, _, _, _, _, _, _, _⟩ := blk5 gY
  go_region
  have tX1 := blk2_at0 (v := .int .i64 p0) gX
  have tY1 := blk_setOther (i := 0) gY n_YX (.int .i64 p0)
  have tB1 := below_alls gB e_X 0 (.int .i64 p0)
  have tX2 := blk2_at1 (v := .int .i64 p1) tX1
  have tY2 := blk_setOther (i := 1) tY1 n_YX (.int .i64 p1)
  have tB2 := below_alls tB1 e_X 1 (.int .i64 p1)
  have tX3 := blk_setOther (i := 0) tX2 n_XY (.int .i64 b0)
  have tY3 := blk5_at0 (v := .int .i64 b0) tY2
  have tB3 := below_alls tB2 e_Y 0 (.int .i64 b0)
  have tX4 := blk_setOther (i := 1) tX3 n_XY (.int .i64 b1)
  have tY4 := blk5_at1 (v := .int .i64 b1) tY3
  have tB4 := below_alls tB3 e_Y 1 (.int .i64 b1)
  have tX5 := blk_setOther (i := 2) tX4 n_XY (.int .i64 b2)
  have tY5 := blk5_at2 (v := .int .i64 b2) tY4
  have tB5 := below_alls tB4 e_Y 2 (.int .i64 b2)
  have tX6 := blk_setOther (i := 3) tX5 n_XY (.int .i64 b3)
  have tY6 := blk5_at3 (v := .int .i64 b3) tY5
  have tB6 := below_alls tB5 e_Y 3 (.int .i64 b3)
  have tX7 := blk_setOther (i := 4) tX6 n_XY (.int .i64 b4)
  have tY7 := blk5_at4 (v := .int .i64 b4) tY6
  have tB7 := below_alls tB6 e_Y 4 (.int .i64 b4)
  clear tX1 tX2 tX3 tX4 tX5 tX6 tY1 tY2 tY3 tY4 tY5 tY6 tB1 tB2 tB3 tB4 tB5 tB6
  generalize (World.setCell (World.setCell (World.setCell (World.setCell (World.setCell (World.setCell (World.setCell (World.alloc (World.alloc (World.alloc w2 (.cells #[.int .i64 p0, .int .i64 p1] 24 (0, 0))) (.cells #[.int .i64 b0, .int .i64 b1, .int .i64 b2, .int .i64 b3, .int .i64 b4] 30 (0, 0))) (.cells #[.int .i64 r0, .int .i64 r1, .int .i64 r2] 34 (0, 0))) ⟨w.heap.size, 0, none⟩ (.int .i64 p0)) ⟨w.heap.size, 1, none⟩ (.int .i64 p1)) ⟨w.heap.size + 1, 0, none⟩ (.int .i64 b0)) ⟨w.heap.size + 1, 1, none⟩ (.int .i64 b1)) ⟨w.heap.size + 1, 2, none⟩ (.int .i64 b2)) ⟨w.heap.size + 1, 3, none⟩ (.int .i64 b3)) ⟨w.heap.size + 1, 4, none⟩ (.int .i64 b4)) = wq at tX7 tY7 tB7 ⊢
  obtain ⟨x0_, x1_, _, _, _⟩ := blk2 (blk_drw tX7)
  obtain ⟨y0_, y1_, y2_, y3_, y4_, _, _, _, _, _, _⟩ := blk5 (blk_drw tY7)
  go_wp2_with fail
  exact bodyPost_ret (v := .tuple #[.agg #[.int .i64 p0, .int .i64 p1], .agg #[.int .i64 b0, .int .i64 b1, .int .i64 b2, .int .i64 b3, .int .i64 b4]]) (by simp [results, Try.results28, go_sem, x0_, x1_, y0_, y1_, y2_, y3_, y4_]) rfl ⟨_, _, _, _, _, _, _, _, _, _, rfl, ⟨by omega, by omega⟩, ⟨by omega, by omega⟩, ⟨by omega, by omega⟩, ⟨by omega, by omega⟩, ⟨by omega, by omega⟩, ⟨by omega, by omega⟩, ⟨by omega, by omega⟩, ⟨by omega, by omega⟩, ⟨by omega, by omega⟩, ⟨by omega, by omega⟩, tB7.drew⟩
end Go.Proofs.Ytlahjgjjebkpjaa
