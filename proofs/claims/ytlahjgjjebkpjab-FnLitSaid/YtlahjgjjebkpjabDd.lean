/- What the laws of chapter 5 draw: several things. -/
import Derived.Test.YtlahjgjjebkpjabDc
namespace Go.Proofs.Ytlahjgjjebkpjab
open Go Go.ChangeShapes Go.WideShapes Go.ChangeAt Go.RowKit
set_option linter.unusedSimpArgs false
set_option linter.unusedVariables false

theorem below_alls {w0 w : World} {C : Nat} (h : Below w0.heap.size w0 w) (hC : w0.heap.size ≤ C) (i : Nat) (v : Value) : Below w0.heap.size w0 (w.setCell ⟨C, i, none⟩ v) := h.setCell (p := ⟨C, i, none⟩) hC v
def DrewInShadow (w : World) (e : Ending) (w' : World) : Prop := ∃ p0 p1 b0 b1 b2 b3 b4 r0 r1 r2 : Int, e = .returned (.tuple #[.agg #[.int .i64 p0, .int .i64 p1], .agg #[.int .i64 b0, .int .i64 b1, .int .i64 b2, .int .i64 b3, .int .i64 b4], .agg #[.int .i64 r0, .int .i64 r1, .int .i64 r2]]) ∧ (-200 ≤ p0 ∧ p0 ≤ 200) ∧ (-200 ≤ p1 ∧ p1 ≤ 200) ∧ (-200 ≤ b0 ∧ b0 ≤ 200) ∧ (-200 ≤ b1 ∧ b1 ≤ 200) ∧ (-200 ≤ b2 ∧ b2 ≤ 200) ∧ (-200 ≤ b3 ∧ b3 ≤ 200) ∧ (-200 ≤ b4 ∧ b4 ≤ 200) ∧ (-200 ≤ r0 ∧ r0 ≤ 200) ∧ (-200 ≤ r1 ∧ r1 ≤ 200) ∧ (-200 ≤ r2 ∧ r2 ≤ 200) ∧ Below w.heap.size w w'
set_option maxRecDepth 100000 in
set_option maxHeartbeats 8000000 in
theorem drInShadow_any (a : Option Addr) (len cap : Nat) (w : World) (h : CodeOk w a len cap) : Calls Try.prog 11 #[.slice a len cap] w (DrewInShadow w) := by
  have hX1 := code_below h (bel3 w (.cells #[.int .i64 0, .int .i64 0] 24 (0, 0)) (.cells #[.int .i64 0, .int .i64 0, .int .i64 0, .int .i64 0, .int .i64 0] 26 (0, 0)) (.cells #[.int .i64 0, .int .i64 0, .int .i64 0] 28 (0, 0)))
  go_enter Try.func11, Try.ntmps11
  go_wp2_with fail
  refine (open_any _ _ _ _ hX1).mono ?_; rintro e w1 ⟨B, rfl, hB, h1, hb1⟩
  clear hX1
  obtain ⟨hX1, hY1, hZ1, hB1⟩ := ownb3 hb1
  have hz1 := blk_lt hZ1
  have hB' : w.heap.size + 1 + 1 < B := by simp at hB; omega
  clear hB
  have hE1 : Ext B w1 w1 := Ext.refl B w1
  go_wp2_with fail
  refine (shaded_any B 0 14 _ h1 (by omega) (by omega) (by omega)).mono ?_; rintro e w2 ⟨p0, p1, b0, b1, b2, b3, b4, r0, r1, r2, rfl, ⟨p0_0, p0_1⟩, ⟨p1_0, p1_1⟩, ⟨b0_0, b0_1⟩, ⟨b1_0, b1_1⟩, ⟨b2_0, b2_1⟩, ⟨b3_0, b3_1⟩, ⟨b4_0, b4_1⟩, ⟨r0_0, r0_1⟩, ⟨r1_0, r1_1⟩, ⟨r2_0, r2_1⟩, h2, hx2⟩
  have hX2 := blk_ext hX1 hx2 (by omega)
  have hY2 := blk_ext hY1 hx2 (by omega)
  have hZ2 := blk_ext hZ1 hx2 (by omega)
  have hE2 := hE1.trans hx2
  have hBl := hB1.trans (hE2.below (N := w.heap.size) (by omega) (by omega))
  clear hE1 h1
  clear hE2 h2
  clear hX1 hY1 hZ1
  have n_XY : w.heap.size ≠ w.heap.size + 1 := by omega
  have n_XZ : w.heap.size ≠ w.heap.size + 1 + 1 := by omega
  have n_YX : w.heap.size + 1 ≠ w.heap.size := by omega
  have n_YZ : w.heap.size + 1 ≠ w.heap.size + 1 + 1 := by omega
  have n_ZX : w.heap.size + 1 + 1 ≠ w.heap.size := by omega
  have n_ZY : w.heap.size + 1 + 1 ≠ w.heap.size + 1 := by omega
  have e_X : w.heap.size ≤ w.heap.size := by omega
  have e_Y : w.heap.size ≤ w.heap.size + 1 := by omega
  have e_Z : w.heap.size ≤ w.heap.size + 1 + 1 := by omega
  obtain ⟨_, _, _, _, _⟩ := blk2 hX2
  obtain ⟨_, _, _, _, _, _, _, _, _, _, _⟩ := blk5 hY2
  obtain ⟨_, _, _, _, _, _, _⟩ := blk3 hZ2
  go_wp2_with fail
  have tX1 := blk2_at0 (v := .int .i64 p0) hX2
  have tY1 := blk_setOther (i := 0) hY2 n_YX (.int .i64 p0)
  have tZ1 := blk_setOther (i := 0) hZ2 n_ZX (.int .i64 p0)
  have tB1 := below_alls hBl e_X 0 (.int .i64 p0)
  have tX2 := blk2_at1 (v := .int .i64 p1) tX1
  have tY2 := blk_setOther (i := 1) tY1 n_YX (.int .i64 p1)
  have tZ2 := blk_setOther (i := 1) tZ1 n_ZX (.int .i64 p1)
  have tB2 := below_alls tB1 e_X 1 (.int .i64 p1)
  have tX3 := blk_setOther (i := 0) tX2 n_XY (.int .i64 b0)
  have tY3 := blk5_at0 (v := .int .i64 b0) tY2
  have tZ3 := blk_setOther (i := 0) tZ2 n_ZY (.int .i64 b0)
  have tB3 := below_alls tB2 e_Y 0 (.int .i64 b0)
  have tX4 := blk_setOther (i := 1) tX3 n_XY (.int .i64 b1)
  have tY4 := blk5_at1 (v := .int .i64 b1) tY3
  have tZ4 := blk_setOther (i := 1) tZ3 n_ZY (.int .i64 b1)
  have tB4 := below_alls tB3 e_Y 1 (.int .i64 b1)
  have tX5 := blk_setOther (i := 2) tX4 n_XY (.int .i64 b2)
  have tY5 := blk5_at2 (v := .int .i64 b2) tY4
  have tZ5 := blk_setOther (i := 2) tZ4 n_ZY (.int .i64 b2)
  have tB5 := below_alls tB4 e_Y 2 (.int .i64 b2)
  have tX6 := blk_setOther (i := 3) tX5 n_XY (.int .i64 b3)
  have tY6 := blk5_at3 (v := .int .i64 b3) tY5
  have tZ6 := blk_setOther (i := 3) tZ5 n_ZY (.int .i64 b3)
  have tB6 := below_alls tB5 e_Y 3 (.int .i64 b3)
  have tX7 := blk_setOther (i := 4) tX6 n_XY (.int .i64 b4)
  have tY7 := blk5_at4 (v := .int .i64 b4) tY6
  have tZ7 := blk_setOther (i := 4) tZ6 n_ZY (.int .i64 b4)
  have tB7 := below_alls tB6 e_Y 4 (.int .i64 b4)
  have tX8 := blk_setOther (i := 0) tX7 n_XZ (.int .i64 r0)
  have tY8 := blk_setOther (i := 0) tY7 n_YZ (.int .i64 r0)
  have tZ8 := blk3_at0 (v := .int .i64 r0) tZ7
  have tB8 := below_alls tB7 e_Z 0 (.int .i64 r0)
  have tX9 := blk_setOther (i := 1) tX8 n_XZ (.int .i64 r1)
  have tY9 := blk_setOther (i := 1) tY8 n_YZ (.int .i64 r1)
  have tZ9 := blk3_at1 (v := .int .i64 r1) tZ8
  have tB9 := below_alls tB8 e_Z 1 (.int .i64 r1)
  have tX10 := blk_setOther (i := 2) tX9 n_XZ (.int .i64 r2)
  have tY10 := blk_setOther (i := 2) tY9 n_YZ (.int .i64 r2)
  have tZ10 := blk3_at2 (v := .int .i64 r2) tZ9
  have tB10 := below_alls tB9 e_Z 2 (.int .i64 r2)
  clear tX1 tX2 tX3 tX4 tX5 tX6 tX7 tX8 tX9 tY1 tY2 tY3 tY4 tY5 tY6 tY7 tY8 tY9 tZ1 tZ2 tZ3 tZ4 tZ5 tZ6 tZ7 tZ8 tZ9 tB1 tB2 tB3 tB4 tB5 tB6 tB7 tB8 tB9
  generalize (World.setCell (World.setCell (World.setCell (World.setCell (World.setCell (World.setCell (World.setCell (World.setCell (World.setCell (World.setCell w2 ⟨w.heap.size, 0, none⟩ (.int .i64 p0)) ⟨w.heap.size, 1, none⟩ (.int .i64 p1)) ⟨w.heap.size + 1, 0, none⟩ (.int .i64 b0)) ⟨w.heap.size + 1, 1, none⟩ (.int .i64 b1)) ⟨w.heap.size + 1, 2, none⟩ (.int .i64 b2)) ⟨w.heap.size + 1, 3, none⟩ (.int .i64 b3)) ⟨w.heap.size + 1, 4, none⟩ (.int .i64 b4)) ⟨w.heap.size + 1 + 1, 0, none⟩ (.int .i64 r0)) ⟨w.heap.size + 1 + 1, 1, none⟩ (.int .i64 r1)) ⟨w.heap.size + 1 + 1, 2, none⟩ (.int .i64 r2)) = wq at tX10 tY10 tZ10 tB10 ⊢
  obtain ⟨x0_, x1_, _, _, _⟩ := blk2 (tX10)
  obtain ⟨y0_, y1_, y2_, y3_, y4_, _, _, _, _, _, _⟩ := blk5 (tY10)
  obtain ⟨z0_, z1_, z2_, _, _, _, _⟩ := blk3 (tZ10)
  exact bodyPost_ret (v := .tuple #[.agg #[.int .i64 p0, .int .i64 p1], .agg #[.int .i64 b0, .int .i64 b1, .int .i64 b2, .int .i64 b3, .int .i64 b4], .agg #[.int .i64 r0, .int .i64 r1, .int .i64 r2]]) (by simp [results, Try.results11, go_sem, x0_, x1_, y0_, y1_, y2_, y3_, y4_, z0_, z1_, z2_]) rfl ⟨_, _, _, _, _, _, _, _, _, _, rfl, ⟨by omega, by omega⟩, ⟨by omega, by omega⟩, ⟨by omega, by omega⟩, ⟨by omega, by omega⟩, ⟨by omega, by omega⟩, ⟨by omega, by omega⟩, ⟨by omega, by omega⟩, ⟨by omega, by omega⟩, ⟨by omega, by omega⟩, ⟨by omega, by omega⟩, tB10⟩
def DrewHeightFor (w : World) (e : Ending) (w' : World) : Prop := ∃ p0 p1 b0 b1 b2 b3 b4 r0 r1 r2 : Int, e = .returned (.tuple #[.agg #[.int .i64 p0, .int .i64 p1], .agg #[.int .i64 b0, .int .i64 b1, .int .i64 b2, .int .i64 b3, .int .i64 b4], .agg #[.int .i64 r0, .int .i64 r1, .int .i64 r2]]) ∧ (-200 ≤ p0 ∧ p0 ≤ 200) ∧ (-200 ≤ p1 ∧ p1 ≤ 200) ∧ (-200 ≤ b0 ∧ b0 ≤ 200) ∧ (-200 ≤ b1 ∧ b1 ≤ 200) ∧ (-200 ≤ b2 ∧ b2 ≤ 200) ∧ (-200 ≤ b3 ∧ b3 ≤ 200) ∧ (-200 ≤ b4 ∧ b4 ≤ 200) ∧ (-200 ≤ r0 ∧ r0 ≤ 200) ∧ (-200 ≤ r1 ∧ r1 ≤ 200) ∧ (-200 ≤ r2 ∧ r2 ≤ 200) ∧ Below w.heap.size w w'
set_option maxRecDepth 100000 in
set_option maxHeartbeats 8000000 in
theorem drHeightFor_any (a : Option Addr) (len cap : Nat) (w : World) (h : CodeOk w a len cap) : Calls Try.prog 29 #[.slice a len cap] w (DrewHeightFor w) := by
  have hX1 := code_below h (bel3 w (.cells #[.int .i64 0, .int .i64 0] 24 (0, 0)) (.cells #[.int .i64 0, .int .i64 0, .int .i64 0, .int .i64 0, .int .i64 0] 26 (0, 0)) (.cells #[.int .i64 0, .int .i64 0, .int .i64 0] 28 (0, 0)))
  go_enter Try.func29, Try.ntmps29
  go_wp2_with fail
  refine (open_any _ _ _ _ hX1).mono ?_; rintro e w1 ⟨B, rfl, hB, h1, hb1⟩
  clear hX1
  obtain ⟨hX1, hY1, hZ1, hB1⟩ := ownb3 hb1
  have hz1 := blk_lt hZ1
  have hB' : w.heap.size + 1 + 1 < B := by simp at hB; omega
  clear hB
  have hE1 : Ext B w1 w1 := Ext.refl B w1
  go_wp2_with fail
  refine (shaded_any B 0 14 _ h1 (by omega) (by omega) (by omega)).mono ?_; rintro e w2 ⟨p0, p1, b0, b1, b2, b3, b4, r0, r1, r2, rfl, ⟨p0_0, p0_1⟩, ⟨p1_0, p1_1⟩, ⟨b0_0, b0_1⟩, ⟨b1_0, b1_1⟩, ⟨b2_0, b2_1⟩, ⟨b3_0, b3_1⟩, ⟨b4_0, b4_1⟩, ⟨r0_0, r0_1⟩, ⟨r1_0, r1_1⟩, ⟨r2_0, r2_1⟩, h2, hx2⟩
  have hX2 := blk_ext hX1 hx2 (by omega)
  have hY2 := blk_ext hY1 hx2 (by omega)
  have hZ2 := blk_ext hZ1 hx2 (by omega)
  have hE2 := hE1.trans hx2
  have hBl := hB1.trans (hE2.below (N := w.heap.size) (by omega) (by omega))
  clear hE1 h1
  clear hE2 h2
  clear hX1 hY1 hZ1
  have n_XY : w.heap.size ≠ w.heap.size + 1 := by omega
  have n_XZ : w.heap.size ≠ w.heap.size + 1 + 1 := by omega
  have n_YX : w.heap.size + 1 ≠ w.heap.size := by omega
  have n_YZ : w.heap.size + 1 ≠ w.heap.size + 1 + 1 := by omega
  have n_ZX : w.heap.size + 1 + 1 ≠ w.heap.size := by omega
  have n_ZY : w.heap.size + 1 + 1 ≠ w.heap.size + 1 := by omega
  have e_X : w.heap.size ≤ w.heap.size := by omega
  have e_Y : w.heap.size ≤ w.heap.size + 1 := by omega
  have e_Z : w.heap.size ≤ w.heap.size + 1 + 1 := by omega
  obtain ⟨_, _, _, _, _⟩ := blk2 hX2
  obtain ⟨_, _, _, _, _, _, _, _, _, _, _⟩ := blk5 hY2
  obtain ⟨_, _, _, _, _, _, _⟩ := blk3 hZ2
  go_wp2_with fail
  have tX1 := blk2_at0 (v := .int .i64 p0) hX2
  have tY1 := blk_setOther (i := 0) hY2 n_YX (.int .i64 p0)
  have tZ1 := blk_setOther (i := 0) hZ2 n_ZX (.int .i64 p0)
  have tB1 := below_alls hBl e_X 0 (.int .i64 p0)
  have tX2 := blk2_at1 (v := .int .i64 p1) tX1
  have tY2 := blk_setOther (i := 1) tY1 n_YX (.int .i64 p1)
  have tZ2 := blk_setOther (i := 1) tZ1 n_ZX (.int .i64 p1)
  have tB2 := below_alls tB1 e_X 1 (.int .i64 p1)
  have tX3 := blk_setOther (i := 0) tX2 n_XY (.int .i64 b0)
  have tY3 := blk5_at0 (v := .int .i64 b0) tY2
  have tZ3 := blk_setOther (i := 0) tZ2 n_ZY (.int .i64 b0)
  have tB3 := below_alls tB2 e_Y 0 (.int .i64 b0)
  have tX4 := blk_setOther (i := 1) tX3 n_XY (.int .i64 b1)
  have tY4 := blk5_at1 (v := .int .i64 b1) tY3
  have tZ4 := blk_setOther (i := 1) tZ3 n_ZY (.int .i64 b1)
  have tB4 := below_alls tB3 e_Y 1 (.int .i64 b1)
  have tX5 := blk_setOther (i := 2) tX4 n_XY (.int .i64 b2)
  have tY5 := blk5_at2 (v := .int .i64 b2) tY4
  have tZ5 := blk_setOther (i := 2) tZ4 n_ZY (.int .i64 b2)
  have tB5 := below_alls tB4 e_Y 2 (.int .i64 b2)
  have tX6 := blk_setOther (i := 3) tX5 n_XY (.int .i64 b3)
  have tY6 := blk5_at3 (v := .int .i64 b3) tY5
  have tZ6 := blk_setOther (i := 3) tZ5 n_ZY (.int .i64 b3)
  have tB6 := below_alls tB5 e_Y 3 (.int .i64 b3)
  have tX7 := blk_setOther (i := 4) tX6 n_XY (.int .i64 b4)
  have tY7 := blk5_at4 (v := .int .i64 b4) tY6
  have tZ7 := blk_setOther (i := 4) tZ6 n_ZY (.int .i64 b4)
  have tB7 := below_alls tB6 e_Y 4 (.int .i64 b4)
  have tX8 := blk_setOther (i := 0) tX7 n_XZ (.int .i64 r0)
  have tY8 := blk_setOther (i := 0) tY7 n_YZ (.int .i64 r0)
  have tZ8 := blk3_at0 (v := .int .i64 r0) tZ7
  have tB8 := below_alls tB7 e_Z 0 (.int .i64 r0)
  have tX9 := blk_setOther (i := 1) tX8 n_XZ (.int .i64 r1)
  have tY9 := blk_setOther (i := 1) tY8 n_YZ (.int .i64 r1)
  have tZ9 := blk3_at1 (v := .int .i64 r1) tZ8
  have tB9 := below_alls tB8 e_Z 1 (.int .i64 r1)
  have tX10 := blk_setOther (i := 2) tX9 n_XZ (.int .i64 r2)
  have tY10 := blk_setOther (i := 2) tY9 n_YZ (.int .i64 r2)
  have tZ10 := blk3_at2 (v := .int .i64 r2) tZ9
  have tB10 := below_alls tB9 e_Z 2 (.int .i64 r2)
  clear tX1 tX2 tX3 tX4 tX5 tX6 tX7 tX8 tX9 tY1 tY2 tY3 tY4 tY5 tY6 tY7 tY8 tY9 tZ1 tZ2 tZ3 tZ4 tZ5 tZ6 tZ7 tZ8 tZ9 tB1 tB2 tB3 tB4 tB5 tB6 tB7 tB8 tB9
  generalize (World.setCell (World.setCell (World.setCell (World.setCell (World.setCell (World.setCell (World.setCell (World.setCell (World.setCell (World.setCell w2 ⟨w.heap.size, 0, none⟩ (.int .i64 p0)) ⟨w.heap.size, 1, none⟩ (.int .i64 p1)) ⟨w.heap.size + 1, 0, none⟩ (.int .i64 b0)) ⟨w.heap.size + 1, 1, none⟩ (.int .i64 b1)) ⟨w.heap.size + 1, 2, none⟩ (.int .i64 b2)) ⟨w.heap.size + 1, 3, none⟩ (.int .i64 b3)) ⟨w.heap.size + 1, 4, none⟩ (.int .i64 b4)) ⟨w.heap.size + 1 + 1, 0, none⟩ (.int .i64 r0)) ⟨w.heap.size + 1 + 1, 1, none⟩ (.int .i64 r1)) ⟨w.heap.size + 1 + 1, 2, none⟩ (.int .i64 r2)) = wq at tX10 tY10 tZ10 tB10 ⊢
  obtain ⟨x0_, x1_, _, _, _⟩ := blk2 (tX10)
  obtain ⟨y0_, y1_, y2_, y3_, y4_, _, _, _, _, _, _⟩ := blk5 (tY10)
  obtain ⟨z0_, z1_, z2_, _, _, _, _⟩ := blk3 (tZ10)
  exact bodyPost_ret (v := .tuple #[.agg #[.int .i64 p0, .int .i64 p1], .agg #[.int .i64 b0, .int .i64 b1, .int .i64 b2, .int .i64 b3, .int .i64 b4], .agg #[.int .i64 r0, .int .i64 r1, .int .i64 r2]]) (by simp [results, Try.results29, go_sem, x0_, x1_, y0_, y1_, y2_, y3_, y4_, z0_, z1_, z2_]) rfl ⟨_, _, _, _, _, _, _, _, _, _, rfl, ⟨by omega, by omega⟩, ⟨by omega, by omega⟩, ⟨by omega, by omega⟩, ⟨by omega, by omega⟩, ⟨by omega, by omega⟩, ⟨by omega, by omega⟩, ⟨by omega, by omega⟩, ⟨by omega, by omega⟩, ⟨by omega, by omega⟩, ⟨by omega, by omega⟩, tB10⟩
def DrewCornersOf (w : World) (e : Ending) (w' : World) : Prop := ∃ b0 b1 b2 b3 b4 r0 r1 r2 : Int, e = .returned (.tuple #[.agg #[.int .i64 b0, .int .i64 b1, .int .i64 b2, .int .i64 b3, .int .i64 b4], .agg #[.int .i64 r0, .int .i64 r1, .int .i64 r2]]) ∧ (-200 ≤ b0 ∧ b0 ≤ 200) ∧ (-200 ≤ b1 ∧ b1 ≤ 200) ∧ (-200 ≤ b2 ∧ b2 ≤ 200) ∧ (-200 ≤ b3 ∧ b3 ≤ 200) ∧ (-200 ≤ b4 ∧ b4 ≤ 200) ∧ (-200 ≤ r0 ∧ r0 ≤ 200) ∧ (-200 ≤ r1 ∧ r1 ≤ 200) ∧ (-200 ≤ r2 ∧ r2 ≤ 200) ∧ Below w.heap.size w w'
set_option maxRecDepth 100000 in
set_option maxHeartbeats 8000000 in
theorem drCornersOf_any (a : Option Addr) (len cap : Nat) (w : World) (h : CodeOk w a len cap) : Calls Try.prog 42 #[.slice a len cap] w (DrewCornersOf w) := by
  have hX1 := code_below h (bel2 w (.cells #[.int .i64 0, .int .i64 0, .int .i64 0, .int .i64 0, .int .i64 0] 26 (0, 0)) (.cells #[.int .i64 0, .int .i64 0, .int .i64 0] 28 (0, 0)))
  go_enter Try.func42, Try.ntmps42
  go_wp2_with fail
  refine (open_any _ _ _ _ hX1).mono ?_; rintro e w1 ⟨B, rfl, hB, h1, hb1⟩
  clear hX1
  obtain ⟨hX1, hY1, hB1⟩ := ownb2 hb1
  have hz1 := blk_lt hY1
  have hB' : w.heap.size + 1 < B := by simp at hB; omega
  clear hB
  have hE1 : Ext B w1 w1 := Ext.refl B w1
  go_wp2_with fail
  refine (block_any B 0 9 _ h1 (by omega) (by omega) (by omega)).mono ?_; rintro e w2 ⟨b0, b1, b2, b3, b4, rfl, ⟨b0_0, b0_1⟩, ⟨b1_0, b1_1⟩, ⟨b2_0, b2_1⟩, ⟨b3_0, b3_1⟩, ⟨b4_0, b4_1⟩, h2, hx2⟩
  have hX2 := blk_ext hX1 hx2 (by omega)
  have hY2 := blk_ext hY1 hx2 (by omega)
  have hE2 := hE1.trans hx2
  go_wp2_with fail
  refine (ray_any B 8 9 _ h2 (by omega) (by omega) (by omega)).mono ?_; rintro e w3 ⟨r0, r1, r2, rfl, ⟨r0_0, r0_1⟩, ⟨r1_0, r1_1⟩, ⟨r2_0, r2_1⟩, h3, hx3⟩
  have hX3 := blk_ext hX2 hx3 (by omega)
  have hY3 := blk_ext hY2 hx3 (by omega)
  have hE3 := hE2.trans hx3
  have hBl := hB1.trans (hE3.below (N := w.heap.size) (by omega) (by omega))
  clear hE1 h1
  clear hE2 h2
  clear hE3 h3
  clear hX1 hY1 hX2 hY2
  have n_XY : w.heap.size ≠ w.heap.size + 1 := by omega
  have n_YX : w.heap.size + 1 ≠ w.heap.size := by omega
  have e_X : w.heap.size ≤ w.heap.size := by omega
  have e_Y : w.heap.size ≤ w.heap.size + 1 := by omega
  obtain ⟨_, _, _, _, _, _, _, _, _, _, _⟩ := blk5 hX3
  obtain ⟨_, _, _, _, _, _, _⟩ := blk3 hY3
  go_wp2_with fail
  have tX1 := blk5_at0 (v := .int .i64 b0) hX3
  have tY1 := blk_setOther (i := 0) hY3 n_YX (.int .i64 b0)
  have tB1 := below_alls hBl e_X 0 (.int .i64 b0)
  have tX2 := blk5_at1 (v := .int .i64 b1) tX1
  have tY2 := blk_setOther (i := 1) tY1 n_YX (.int .i64 b1)
  have tB2 := below_alls tB1 e_X 1 (.int .i64 b1)
  have tX3 := blk5_at2 (v := .int .i64 b2) tX2
  have tY3 := blk_setOther (i := 2) tY2 n_YX (.int .i64 b2)
  have tB3 := below_alls tB2 e_X 2 (.int .i64 b2)
  have tX4 := blk5_at3 (v := .int .i64 b3) tX3
  have tY4 := blk_setOther (i := 3) tY3 n_YX (.int .i64 b3)
  have tB4 := below_alls tB3 e_X 3 (.int .i64 b3)
  have tX5 := blk5_at4 (v := .int .i64 b4) tX4
  have tY5 := blk_setOther (i := 4) tY4 n_YX (.int .i64 b4)
  have tB5 := below_alls tB4 e_X 4 (.int .i64 b4)
  have tX6 := blk_setOther (i := 0) tX5 n_XY (.int .i64 r0)
  have tY6 := blk3_at0 (v := .int .i64 r0) tY5
  have tB6 := below_alls tB5 e_Y 0 (.int .i64 r0)
  have tX7 := blk_setOther (i := 1) tX6 n_XY (.int .i64 r1)
  have tY7 := blk3_at1 (v := .int .i64 r1) tY6
  have tB7 := below_alls tB6 e_Y 1 (.int .i64 r1)
  have tX8 := blk_setOther (i := 2) tX7 n_XY (.int .i64 r2)
  have tY8 := blk3_at2 (v := .int .i64 r2) tY7
  have tB8 := below_alls tB7 e_Y 2 (.int .i64 r2)
  clear tX1 tX2 tX3 tX4 tX5 tX6 tX7 tY1 tY2 tY3 tY4 tY5 tY6 tY7 tB1 tB2 tB3 tB4 tB5 tB6 tB7
  generalize (World.setCell (World.setCell (World.setCell (World.setCell (World.setCell (World.setCell (World.setCell (World.setCell w3 ⟨w.heap.size, 0, none⟩ (.int .i64 b0)) ⟨w.heap.size, 1, none⟩ (.int .i64 b1)) ⟨w.heap.size, 2, none⟩ (.int .i64 b2)) ⟨w.heap.size, 3, none⟩ (.int .i64 b3)) ⟨w.heap.size, 4, none⟩ (.int .i64 b4)) ⟨w.heap.size + 1, 0, none⟩ (.int .i64 r0)) ⟨w.heap.size + 1, 1, none⟩ (.int .i64 r1)) ⟨w.heap.size + 1, 2, none⟩ (.int .i64 r2)) = wq at tX8 tY8 tB8 ⊢
  obtain ⟨x0_, x1_, x2_, x3_, x4_, _, _, _, _, _, _⟩ := blk5 (tX8)
  obtain ⟨y0_, y1_, y2_, _, _, _, _⟩ := blk3 (tY8)
  exact bodyPost_ret (v := .tuple #[.agg #[.int .i64 b0, .int .i64 b1, .int .i64 b2, .int .i64 b3, .int .i64 b4], .agg #[.int .i64 r0, .int .i64 r1, .int .i64 r2]]) (by simp [results, Try.results42, go_sem, x0_, x1_, x2_, x3_, x4_, y0_, y1_, y2_]) rfl ⟨_, _, _, _, _, _, _, _, rfl, ⟨by omega, by omega⟩, ⟨by omega, by omega⟩, ⟨by omega, by omega⟩, ⟨by omega, by omega⟩, ⟨by omega, by omega⟩, ⟨by omega, by omega⟩, ⟨by omega, by omega⟩, ⟨by omega, by omega⟩, tB8⟩
def DrewCasts (w : World) (e : Ending) (w' : World) : Prop := ∃ b0 b1 b2 b3 b4 c0 c1 c2 c3 c4 r0 r1 r2 : Int, e = .returned (.tuple #[.agg #[.int .i64 b0, .int .i64 b1, .int .i64 b2, .int .i64 b3, .int .i64 b4], .agg #[.int .i64 c0, .int .i64 c1, .int .i64 c2, .int .i64 c3, .int .i64 c4], .agg #[.int .i64 r0, .int .i64 r1, .int .i64 r2]]) ∧ (-200 ≤ b0 ∧ b0 ≤ 200) ∧ (-200 ≤ b1 ∧ b1 ≤ 200) ∧ (-200 ≤ b2 ∧ b2 ≤ 200) ∧ (-200 ≤ b3 ∧ b3 ≤ 200) ∧ (-200 ≤ b4 ∧ b4 ≤ 200) ∧ (-200 ≤ c0 ∧ c0 ≤ 200) ∧ (-200 ≤ c1 ∧ c1 ≤ 200) ∧ (-200 ≤ c2 ∧ c2 ≤ 200) ∧ (-200 ≤ c3 ∧ c3 ≤ 200) ∧ (-200 ≤ c4 ∧ c4 ≤ 200) ∧ (-200 ≤ r0 ∧ r0 ≤ 200) ∧ (-200 ≤ r1 ∧ r1 ≤ 200) ∧ (-200 ≤ r2 ∧ r2 ≤ 200) ∧ Below w.heap.size w w'
set_option maxRecDepth 100000 in
set_option maxHeartbeats 8000000 in
theorem drCasts_any (a : Option Addr) (len cap : Nat) (w : World) (h : CodeOk w a len cap) : Calls Try.prog 23 #[.slice a len cap] w (DrewCasts w) := by
  have hX1 := code_below h (bel3 w (.cells #[.int .i64 0, .int .i64 0, .int .i64 0, .int .i64 0, .int .i64 0] 26 (0, 0)) (.cells #[.int .i64 0, .int .i64 0, .int .i64 0, .int .i64 0, .int .i64 0] 26 (0, 0)) (.cells #[.int .i64 0, .int .i64 0, .int .i64 0] 28 (0, 0)))
  go_enter Try.func23, Try.ntmps23
  go_wp2_with fail
  refine (open_any _ _ _ _ hX1).mono ?_; rintro e w1 ⟨B, rfl, hB, h1, hb1⟩
  clear hX1
  obtain ⟨hX1, hY1, hZ1, hB1⟩ := ownb3 hb1
  have hz1 := blk_lt hZ1
  have hB' : w.heap.size + 1 + 1 < B := by simp at hB; omega
  clear hB
  have hE1 : Ext B w1 w1 := Ext.refl B w1
  go_wp2_with fail
  refine (block_any B 0 14 _ h1 (by omega) (by omega) (by omega)).mono ?_; rintro e w2 ⟨b0, b1, b2, b3, b4, rfl, ⟨b0_0, b0_1⟩, ⟨b1_0, b1_1⟩, ⟨b2_0, b2_1⟩, ⟨b3_0, b3_1⟩, ⟨b4_0, b4_1⟩, h2, hx2⟩
  have hX2 := blk_ext hX1 hx2 (by omega)
  have hY2 := blk_ext hY1 hx2 (by omega)
  have hZ2 := blk_ext hZ1 hx2 (by omega)
  have hE2 := hE1.trans hx2
  go_wp2_with fail
  refine (block_any B 8 14 _ h2 (by omega) (by omega) (by omega)).mono ?_; rintro e w3 ⟨c0, c1, c2, c3, c4, rfl, ⟨c0_0, c0_1⟩, ⟨c1_0, c1_1⟩, ⟨c2_0, c2_1⟩, ⟨c3_0, c3_1⟩, ⟨c4_0, c4_1⟩, h3, hx3⟩
  have hX3 := blk_ext hX2 hx3 (by omega)
  have hY3 := blk_ext hY2 hx3 (by omega)
  have hZ3 := blk_ext hZ2 hx3 (by omega)
  have hE3 := hE2.trans hx3
  go_wp2_with fail
  refine (ray_any B 16 14 _ h3 (by omega) (by omega) (by omega)).mono ?_; rintro e w4 ⟨r0, r1, r2, rfl, ⟨r0_0, r0_1⟩, ⟨r1_0, r1_1⟩, ⟨r2_0, r2_1⟩, h4, hx4⟩
  have hX4 := blk_ext hX3 hx4 (by omega)
  have hY4 := blk_ext hY3 hx4 (by omega)
  have hZ4 := blk_ext hZ3 hx4 (by omega)
  have hE4 := hE3.trans hx4
  have hBl := hB1.trans (hE4.below (N := w.heap.size) (by omega) (by omega))
  clear hE1 h1
  clear hE2 h2
  clear hE3 h3
  clear hE4 h4
  clear hX1 hY1 hZ1 hX2 hY2 hZ2 hX3 hY3 hZ3
  have n_XY : w.heap.size ≠ w.heap.size + 1 := by omega
  have n_XZ : w.heap.size ≠ w.heap.size + 1 + 1 := by omega
  have n_YX : w.heap.size + 1 ≠ w.heap.size := by omega
  have n_YZ : w.heap.size + 1 ≠ w.heap.size + 1 + 1 := by omega
  have n_ZX : w.heap.size + 1 + 1 ≠ w.heap.size := by omega
  have n_ZY : w.heap.size + 1 + 1 ≠ w.heap.size + 1 := by omega
  have e_X : w.heap.size ≤ w.heap.size := by omega
  have e_Y : w.heap.size ≤ w.heap.size + 1 := by omega
  have e_Z : w.heap.size ≤ w.heap.size + 1 + 1 := by omega
  obtain ⟨_, _, _, _, _, _, _, _, _, _, _⟩ := blk5 hX4
  obtain ⟨_, _, _, _, _, _, _, _, _, _, _⟩ := blk5 hY4
  obtain ⟨_, _, _, _, _, _, _⟩ := blk3 hZ4
  go_wp2_with fail
  have tX1 := blk5_at0 (v := .int .i64 b0) hX4
  have tY1 := blk_setOther (i := 0) hY4 n_YX (.int .i64 b0)
  have tZ1 := blk_setOther (i := 0) hZ4 n_ZX (.int .i64 b0)
  have tB1 := below_alls hBl e_X 0 (.int .i64 b0)
  have tX2 := blk5_at1 (v := .int .i64 b1) tX1
  have tY2 := blk_setOther (i := 1) tY1 n_YX (.int .i64 b1)
  have tZ2 := blk_setOther (i := 1) tZ1 n_ZX (.int .i64 b1)
  have tB2 := below_alls tB1 e_X 1 (.int .i64 b1)
  have tX3 := blk5_at2 (v := .int .i64 b2) tX2
  have tY3 := blk_setOther (i := 2) tY2 n_YX (.int .i64 b2)
  have tZ3 := blk_setOther (i := 2) tZ2 n_ZX (.int .i64 b2)
  have tB3 := below_alls tB2 e_X 2 (.int .i64 b2)
  have tX4 := blk5_at3 (v := .int .i64 b3) tX3
  have tY4 := blk_setOther (i := 3) tY3 n_YX (.int .i64 b3)
  have tZ4 := blk_setOther (i := 3) tZ3 n_ZX (.int .i64 b3)
  have tB4 := below_alls tB3 e_X 3 (.int .i64 b3)
  have tX5 := blk5_at4 (v := .int .i64 b4) tX4
  have tY5 := blk_setOther (i := 4) tY4 n_YX (.int .i64 b4)
  have tZ5 := blk_setOther (i := 4) tZ4 n_ZX (.int .i64 b4)
  have tB5 := below_alls tB4 e_X 4 (.int .i64 b4)
  have tX6 := blk_setOther (i := 0) tX5 n_XY (.int .i64 c0)
  have tY6 := blk5_at0 (v := .int .i64 c0) tY5
  have tZ6 := blk_setOther (i := 0) tZ5 n_ZY (.int .i64 c0)
  have tB6 := below_alls tB5 e_Y 0 (.int .i64 c0)
  have tX7 := blk_setOther (i := 1) tX6 n_XY (.int .i64 c1)
  have tY7 := blk5_at1 (v := .int .i64 c1) tY6
  have tZ7 := blk_setOther (i := 1) tZ6 n_ZY (.int .i64 c1)
  have tB7 := below_alls tB6 e_Y 1 (.int .i64 c1)
  have tX8 := blk_setOther (i := 2) tX7 n_XY (.int .i64 c2)
  have tY8 := blk5_at2 (v := .int .i64 c2) tY7
  have tZ8 := blk_setOther (i := 2) tZ7 n_ZY (.int .i64 c2)
  have tB8 := below_alls tB7 e_Y 2 (.int .i64 c2)
  have tX9 := blk_setOther (i := 3) tX8 n_XY (.int .i64 c3)
  have tY9 := blk5_at3 (v := .int .i64 c3) tY8
  have tZ9 := blk_setOther (i := 3) tZ8 n_ZY (.int .i64 c3)
  have tB9 := below_alls tB8 e_Y 3 (.int .i64 c3)
  have tX10 := blk_setOther (i := 4) tX9 n_XY (.int .i64 c4)
  have tY10 := blk5_at4 (v := .int .i64 c4) tY9
  have tZ10 := blk_setOther (i := 4) tZ9 n_ZY (.int .i64 c4)
  have tB10 := below_alls tB9 e_Y 4 (.int .i64 c4)
  have tX11 := blk_setOther (i := 0) tX10 n_XZ (.int .i64 r0)
  have tY11 := blk_setOther (i := 0) tY10 n_YZ (.int .i64 r0)
  have tZ11 := blk3_at0 (v := .int .i64 r0) tZ10
  have tB11 := below_alls tB10 e_Z 0 (.int .i64 r0)
  have tX12 := blk_setOther (i := 1) tX11 n_XZ (.int .i64 r1)
  have tY12 := blk_setOther (i := 1) tY11 n_YZ (.int .i64 r1)
  have tZ12 := blk3_at1 (v := .int .i64 r1) tZ11
  have tB12 := below_alls tB11 e_Z 1 (.int .i64 r1)
  have tX13 := blk_setOther (i := 2) tX12 n_XZ (.int .i64 r2)
  have tY13 := blk_setOther (i := 2) tY12 n_YZ (.int .i64 r2)
  have tZ13 := blk3_at2 (v := .int .i64 r2) tZ12
  have tB13 := below_alls tB12 e_Z 2 (.int .i64 r2)
  clear tX1 tX2 tX3 tX4 tX5 tX6 tX7 tX8 tX9 tX10 tX11 tX12 tY1 tY2 tY3 tY4 tY5 tY6 tY7 tY8 tY9 tY10 tY11 tY12 tZ1 tZ2 tZ3 tZ4 tZ5 tZ6 tZ7 tZ8 tZ9 tZ10 tZ11 tZ12 tB1 tB2 tB3 tB4 tB5 tB6 tB7 tB8 tB9 tB10 tB11 tB12
  generalize (World.setCell (World.setCell (World.setCell (World.setCell (World.setCell (World.setCell (World.setCell (World.setCell (World.setCell (World.setCell (World.setCell (World.setCell (World.setCell w4 ⟨w.heap.size, 0, none⟩ (.int .i64 b0)) ⟨w.heap.size, 1, none⟩ (.int .i64 b1)) ⟨w.heap.size, 2, none⟩ (.int .i64 b2)) ⟨w.heap.size, 3, none⟩ (.int .i64 b3)) ⟨w.heap.size, 4, none⟩ (.int .i64 b4)) ⟨w.heap.size + 1, 0, none⟩ (.int .i64 c0)) ⟨w.heap.size + 1, 1, none⟩ (.int .i64 c1)) ⟨w.heap.size + 1, 2, none⟩ (.int .i64 c2)) ⟨w.heap.size + 1, 3, none⟩ (.int .i64 c3)) ⟨w.heap.size + 1, 4, none⟩ (.int .i64 c4)) ⟨w.heap.size + 1 + 1, 0, none⟩ (.int .i64 r0)) ⟨w.heap.size + 1 + 1, 1, none⟩ (.int .i64 r1)) ⟨w.heap.size + 1 + 1, 2, none⟩ (.int .i64 r2)) = wq at tX13 tY13 tZ13 tB13 ⊢
  obtain ⟨x0_, x1_, x2_, x3_, x4_, _, _, _, _, _, _⟩ := blk5 (tX13)
  obtain ⟨y0_, y1_, y2_, y3_, y4_, _, _, _, _, _, _⟩ := blk5 (tY13)
  obtain ⟨z0_, z1_, z2_, _, _, _, _⟩ := blk3 (tZ13)
  exact bodyPost_ret (v := .tuple #[.agg #[.int .i64 b0, .int .i64 b1, .int .i64 b2, .int .i64 b3, .int .i64 b4], .agg #[.int .i64 c0, .int .i64 c1, .int .i64 c2, .int .i64 c3, .int .i64 c4], .agg #[.int .i64 r0, .int .i64 r1, .int .i64 r2]]) (by simp [results, Try.results23, go_sem, x0_, x1_, x2_, x3_, x4_, y0_, y1_, y2_, y3_, y4_, z0_, z1_, z2_]) rfl ⟨_, _, _, _, _, _, _, _, _, _, _, _, _, rfl, ⟨by omega, by omega⟩, ⟨by omega, by omega⟩, ⟨by omega, by omega⟩, ⟨by omega, by omega⟩, ⟨by omega, by omega⟩, ⟨by omega, by omega⟩, ⟨by omega, by omega⟩, ⟨by omega, by omega⟩, ⟨by omega, by omega⟩, ⟨by omega, by omega⟩, ⟨by omega, by omega⟩, ⟨by omega, by omega⟩, ⟨by omega, by omega⟩, tB13⟩
def DrewLowestUp (w : World) (e : Ending) (w' : World) : Prop := ∃ p0 p1 b0 b1 b2 b3 b4 r0 r1 r2 : Int, e = .returned (.tuple #[.agg #[.int .i64 p0, .int .i64 p1], .agg #[.int .i64 b0, .int .i64 b1, .int .i64 b2, .int .i64 b3, .int .i64 b4], .int .i64 r0, .int .i64 r1]) ∧ (-200 ≤ p0 ∧ p0 ≤ 200) ∧ (-200 ≤ p1 ∧ p1 ≤ 200) ∧ (-200 ≤ b0 ∧ b0 ≤ 200) ∧ (-200 ≤ b1 ∧ b1 ≤ 200) ∧ (-200 ≤ b2 ∧ b2 ≤ 200) ∧ (-200 ≤ b3 ∧ b3 ≤ 200) ∧ (-200 ≤ b4 ∧ b4 ≤ 200) ∧ (-200 ≤ r0 ∧ r0 ≤ 200) ∧ (-200 ≤ r1 ∧ r1 ≤ 200) ∧ (-200 ≤ r2 ∧ r2 ≤ 200) ∧ Below w.heap.size w w'
set_option maxRecDepth 100000 in
set_option maxHeartbeats 8000000 in
theorem drLowestUp_any (a : Option Addr) (len cap : Nat) (w : World) (h : CodeOk w a len cap) : Calls Try.prog 26 #[.slice a len cap] w (DrewLowestUp w) := by
  have hX1 := code_below h (bel2 w (.cells #[.int .i64 0, .int .i64 0] 24 (0, 0)) (.cells #[.int .i64 0, .int .i64 0, .int .i64 0, .int .i64 0, .int .i64 0] 26 (0, 0)))
  go_enter Try.func26, Try.ntmps26
  go_wp2_with fail
  refine (open_any _ _ _ _ hX1).mono ?_; rintro e w1 ⟨B, rfl, hB, h1, hb1⟩
  clear hX1
  obtain ⟨hX1, hY1, hB1⟩ := ownb2 hb1
  have hz1 := blk_lt hY1
  have hB' : w.heap.size + 1 < B := by simp at hB; omega
  clear hB
  have hE1 : Ext B w1 w1 := Ext.refl B w1
  go_wp2_with fail
  refine (shaded_any B 0 14 _ h1 (by omega) (by omega) (by omega)).mono ?_; rintro e w2 ⟨p0, p1, b0, b1, b2, b3, b4, r0, r1, r2, rfl, ⟨p0_0, p0_1⟩, ⟨p1_0, p1_1⟩, ⟨b0_0, b0_1⟩, ⟨b1_0, b1_1⟩, ⟨b2_0, b2_1⟩, ⟨b3_0, b3_1⟩, ⟨b4_0, b4_1⟩, ⟨r0_0, r0_1⟩, ⟨r1_0, r1_1⟩, ⟨r2_0, r2_1⟩, h2, hx2⟩
  have hX2 := blk_ext hX1 hx2 (by omega)
  have hY2 := blk_ext hY1 hx2 (by omega)
  have hE2 := hE1.trans hx2
  have hBl := hB1.trans (hE2.below (N := w.heap.size) (by omega) (by omega))
  clear hE1 h1
  clear hE2 h2
  clear hX1 hY1
  have n_XY : w.heap.size ≠ w.heap.size + 1 := by omega
  have n_YX : w.heap.size + 1 ≠ w.heap.size := by omega
  have e_X : w.heap.size ≤ w.heap.size := by omega
  have e_Y : w.heap.size ≤ w.heap.size + 1 := by omega
  obtain ⟨_, _, _, _, _⟩ := blk2 hX2
  obtain ⟨_, _, _, _, _, _, _, _, _, _, _⟩ := blk5 hY2
  go_wp2_with fail
  have hK := blk_old (blk_old (blk_new w2 (.cells #[.int .i64 p0, .int .i64 p1] 24 (0, 0))) (.cells #[.int .i64 b0, .int .i64 b1, .int .i64 b2, .int .i64 b3, .int .i64 b4] 26 (0, 0))) (.cells #[.int .i64 r0, .int .i64 r1, .int .i64 r2] 28 (0, 0))
  have hL := blk_old (new2 w2 (.cells #[.int .i64 p0, .int .i64 p1] 24 (0, 0)) (.cells #[.int .i64 b0, .int .i64 b1, .int .i64 b2, .int .i64 b3, .int .i64 b4] 26 (0, 0))) (.cells #[.int .i64 r0, .int .i64 r1, .int .i64 r2] 28 (0, 0))
  have hM := new3 w2 (.cells #[.int .i64 p0, .int .i64 p1] 24 (0, 0)) (.cells #[.int .i64 b0, .int .i64 b1, .int .i64 b2, .int .i64 b3, .int .i64 b4] 26 (0, 0)) (.cells #[.int .i64 r0, .int .i64 r1, .int .i64 r2] 28 (0, 0))
  have gX := blk_old (blk_old (blk_old hX2 (.cells #[.int .i64 p0, .int .i64 p1] 24 (0, 0))) (.cells #[.int .i64 b0, .int .i64 b1, .int .i64 b2, .int .i64 b3, .int .i64 b4] 26 (0, 0))) (.cells #[.int .i64 r0, .int .i64 r1, .int .i64 r2] 28 (0, 0))
  have gY := blk_old (blk_old (blk_old hY2 (.cells #[.int .i64 p0, .int .i64 p1] 24 (0, 0))) (.cells #[.int .i64 b0, .int .i64 b1, .int .i64 b2, .int .i64 b3, .int .i64 b4] 26 (0, 0))) (.cells #[.int .i64 r0, .int .i64 r1, .int .i64 r2] 28 (0, 0))
  have gB := ((hBl.alloc hBl.size (.cells #[.int .i64 p0, .int .i64 p1] 24 (0, 0))).alloc (by have := hBl.size; simp; omega) (.cells #[.int .i64 b0, .int .i64 b1, .int .i64 b2, .int .i64 b3, .int .i64 b4] 26 (0, 0))).alloc (by have := hBl.size; simp; omega) (.cells #[.int .i64 r0, .int .i64 r1, .int .i64 r2] 28 (0, 0))
  obtain ⟨_, _, _, _, _⟩ := blk2 hK
  obtain ⟨_, _, _, _, _, _, _, _, _, _, _⟩ := blk5 hL
  obtain ⟨_, _, _, _, _, _, _⟩ := blk3 hM
  obtain ⟨_, _, _, _, _⟩ := blk2 gX
  obtain ⟨_, _, _, _, _, _, _, _, _, _, _⟩ := blk5 gY
  go_region
  have tX1 := blk2_at0 (v := .int .i64 p0) gX
  have tY1 := blk_setOther (i := 0) gY n_YX (.int .i64 p0)
  have tB1 := below_alls gB e_X 0 (.int .i64 p0)
  have tX2 := blk2_at1 (v := .int .i64 p1) tX1
  have tY2 := blk_setOther (i := 1) tY1 n_YX (.int .i64 p1)
  have tB2 := below_alls tB1 e_X 1 (.int .i64 p1)
  have tX3 := blk_setOther (i := 0) tX2 n_XY (.int .i64 b0)
  have tY3 := blk5_at0 (v := .int .i64 b0) tY2
  have tB3 := below_alls tB2 e_Y 0 (.int .i64 b0)
  have tX4 := blk_setOther (i := 1) tX3 n_XY (.int .i64 b1)
  have tY4 := blk5_at1 (v := .int .i64 b1) tY3
  have tB4 := below_alls tB3 e_Y 1 (.int .i64 b1)
  have tX5 := blk_setOther (i := 2) tX4 n_XY (.int .i64 b2)
  have tY5 := blk5_at2 (v := .int .i64 b2) tY4
  have tB5 := below_alls tB4 e_Y 2 (.int .i64 b2)
  have tX6 := blk_setOther (i := 3) tX5 n_XY (.int .i64 b3)
  have tY6 := blk5_at3 (v := .int .i64 b3) tY5
  have tB6 := below_alls tB5 e_Y 3 (.int .i64 b3)
  have tX7 := blk_setOther (i := 4) tX6 n_XY (.int .i64 b4)
  have tY7 := blk5_at4 (v := .int .i64 b4) tY6
  have tB7 := below_alls tB6 e_Y 4 (.int .i64 b4)
  clear tX1 tX2 tX3 tX4 tX5 tX6 tY1 tY2 tY3 tY4 tY5 tY6 tB1 tB2 tB3 tB4 tB5 tB6
  generalize (World.setCell (World.setCell (World.setCell (World.setCell (World.setCell (World.setCell (World.setCell (World.alloc (World.alloc (World.alloc w2 (.cells #[.int .i64 p0, .int .i64 p1] 24 (0, 0))) (.cells #[.int .i64 b0, .int .i64 b1, .int .i64 b2, .int .i64 b3, .int .i64 b4] 26 (0, 0))) (.cells #[.int .i64 r0, .int .i64 r1, .int .i64 r2] 28 (0, 0))) ⟨w.heap.size, 0, none⟩ (.int .i64 p0)) ⟨w.heap.size, 1, none⟩ (.int .i64 p1)) ⟨w.heap.size + 1, 0, none⟩ (.int .i64 b0)) ⟨w.heap.size + 1, 1, none⟩ (.int .i64 b1)) ⟨w.heap.size + 1, 2, none⟩ (.int .i64 b2)) ⟨w.heap.size + 1, 3, none⟩ (.int .i64 b3)) ⟨w.heap.size + 1, 4, none⟩ (.int .i64 b4)) = wq at tX7 tY7 tB7 ⊢
  obtain ⟨x0_, x1_, _, _, _⟩ := blk2 (blk_drw tX7)
  obtain ⟨y0_, y1_, y2_, y3_, y4_, _, _, _, _, _, _⟩ := blk5 (blk_drw tY7)
  go_wp2_with fail
  exact bodyPost_ret (v := .tuple #[.agg #[.int .i64 p0, .int .i64 p1], .agg #[.int .i64 b0, .int .i64 b1, .int .i64 b2, .int .i64 b3, .int .i64 b4], .int .i64 r0, .int .i64 r1]) (by simp [results, Try.results26, go_sem, x0_, x1_, y0_, y1_, y2_, y3_, y4_]) rfl ⟨_, _, _, _, _, _, _, _, _, _, rfl, ⟨by omega, by omega⟩, ⟨by omega, by omega⟩, ⟨by omega, by omega⟩, ⟨by omega, by omega⟩, ⟨by omega, by omega⟩, ⟨by omega, by omega⟩, ⟨by omega, by omega⟩, ⟨by omega, by omega⟩, ⟨by omega, by omega⟩, ⟨by omega, by omega⟩, tB7.drew⟩
def DrewUnderBlock (w : World) (e : Ending) (w' : World) : Prop := ∃ p0 p1 b0 b1 b2 b3 b4 r0 r1 r2 : Int, e = .returned (.tuple #[.agg #[.int .i64 p0, .int .i64 p1], .agg #[.int .i64 b0, .int .i64 b1, .int .i64 b2, .int .i64 b3, .int .i64 b4]]) ∧ (-200 ≤ p0 ∧ p0 ≤ 200) ∧ (-200 ≤ p1 ∧ p1 ≤ 200) ∧ (-200 ≤ b0 ∧ b0 ≤ 200) ∧ (-200 ≤ b1 ∧ b1 ≤ 200) ∧ (-200 ≤ b2 ∧ b2 ≤ 200) ∧ (-200 ≤ b3 ∧ b3 ≤ 200) ∧ (-200 ≤ b4 ∧ b4 ≤ 200) ∧ (-200 ≤ r0 ∧ r0 ≤ 200) ∧ (-200 ≤ r1 ∧ r1 ≤ 200) ∧ (-200 ≤ r2 ∧ r2 ≤ 200) ∧ Below w.heap.size w w'
end Go.Proofs.Ytlahjgjjebkpjab
