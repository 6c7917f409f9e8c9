/- What the laws of faces draw. -/
import Derived.Test.YtfgaggdiepielaaZ2
import Derived.Test.YtfgaggdiepielaaZf
namespace Go.Proofs.Ytfgaggdiepielaa
open Go Go.ChangeShapes Go.WideShapes Go.ChangeAt Go.RowKit
set_option linter.unusedSimpArgs false
set_option linter.unusedVariables false

theorem below_alls {w0 w : World} {C : Nat} (h : Below w0.heap.size w0 w) (hC : w0.heap.size ≤ C) (i : Nat) (v : Value) : Below w0.heap.size w0 (w.setCell ⟨C, i, none⟩ v) := h.setCell (p := ⟨C, i, none⟩) hC v
theorem mul_sq7 {x : Int} {m : Nat} (h0 : -(m : Int) ≤ x) (h1 : x ≤ m) : x * x ≤ (m : Int) * m := by
  have e : (m : Int) * m - x * x = (m - x) * (m + x) := by grind
  have : 0 ≤ (m - x) * (m + x) := Int.mul_nonneg (by omega) (by omega)
  omega
def DrewFace (w : World) (e : Ending) (w' : World) : Prop := ∃ x0 x1 x2 : Int, e = .returned (.agg #[.int .i64 x0, .int .i64 x1, .int .i64 x2]) ∧ (-100 ≤ x0 ∧ x0 ≤ 100) ∧ (-100 ≤ x1 ∧ x1 ≤ 100) ∧ (-100 ≤ x2 ∧ x2 ≤ 100) ∧ Below w.heap.size w w'
set_option maxHeartbeats 2000000 in
theorem drFaceValid_any (a : Option Addr) (len cap : Nat) (w : World) (h : CodeOk w a len cap) : Calls Try.prog 11 #[.slice a len cap] w (DrewFace w) := by
  go_enter Try.func11, Try.ntmps11
  go_wp2_with fail
  refine (open_any _ _ _ _ (code_below h (bel1 _ _))).mono ?_; rintro e w1 ⟨B, rfl, hB, h1, hb1⟩
  obtain ⟨hH1, hB1⟩ := ownb hb1
  have hz1 := blk_lt hH1
  have hB' : w.heap.size < B := by simp at hB; omega
  clear hB
  go_wp2_with fail
  refine (face_any B 0 2 _ h1 (by omega) (by omega) (by omega)).mono ?_; rintro e w2 ⟨x0, x1, x2, rfl, ⟨x0_0, x0_1⟩, ⟨x1_0, x1_1⟩, ⟨x2_0, x2_1⟩, _, hx⟩
  have hH2 := blk_ext hH1 hx (by omega)
  have hB2 := hB1.trans (hx.below (N := w.heap.size) (by omega) (by omega))
  obtain ⟨c0, c1, c2, f0, f1, f2, hz⟩ := blk3 hH2
  go_wp2
  exact bodyPost_ret (v := .agg #[.int .i64 x0, .int .i64 x1, .int .i64 x2]) (by simp [results, Try.results11, go_sem, c0, c1, c2]) rfl ⟨_, _, _, rfl, ⟨x0_0, x0_1⟩, ⟨x1_0, x1_1⟩, ⟨x2_0, x2_1⟩, (((hB2.setCell (p := ⟨_, _, _⟩) (by simp) _).setCell (p := ⟨_, _, _⟩) (by simp) _).setCell (p := ⟨_, _, _⟩) (by simp) _)⟩
def DrewFaceGain (w : World) (e : Ending) (w' : World) : Prop := ∃ a0 a1 a2 r0 r1 r2 : Int, e = .returned (.tuple #[.agg #[.int .i64 a0, .int .i64 a1, .int .i64 a2], .agg #[.int .i64 r0, .int .i64 r1, .int .i64 r2]]) ∧ (-200 ≤ a0 ∧ a0 ≤ 200) ∧ (-200 ≤ a1 ∧ a1 ≤ 200) ∧ (-200 ≤ a2 ∧ a2 ≤ 200) ∧ (-200 ≤ r0 ∧ r0 ≤ 200) ∧ (-200 ≤ r1 ∧ r1 ≤ 200) ∧ (-200 ≤ r2 ∧ r2 ≤ 200) ∧ Below w.heap.size w w'
set_option maxRecDepth 100000 in
set_option maxHeartbeats 8000000 in
theorem drFaceGain_any (a : Option Addr) (len cap : Nat) (w : World) (h : CodeOk w a len cap) : Calls Try.prog 15 #[.slice a len cap] w (DrewFaceGain w) := by
  have hX1 := code_below h (bel2 w (.cells #[.int .i64 0, .int .i64 0, .int .i64 0] 24 (0, 0)) (.cells #[.int .i64 0, .int .i64 0, .int .i64 0] 29 (0, 0)))
  go_enter Try.func15, Try.ntmps15
  go_wp2_with fail
  refine (open_any _ _ _ _ hX1).mono ?_; rintro e w1 ⟨B, rfl, hB, h1, hb1⟩
  clear hX1
  obtain ⟨hX1, hY1, hB1⟩ := ownb2 hb1
  have hz1 := blk_lt hY1
  have hB' : w.heap.size + 1 < B := by simp at hB; omega
  clear hB
  have hE1 : Ext B w1 w1 := Ext.refl B w1
  go_wp2_with fail
  refine (face_any B 0 9 _ h1 (by omega) (by omega) (by omega)).mono ?_; rintro e w2 ⟨a0, a1, a2, rfl, ⟨a0_0, a0_1⟩, ⟨a1_0, a1_1⟩, ⟨a2_0, a2_1⟩, h2, hx2⟩
  have hX2 := blk_ext hX1 hx2 (by omega)
  have hY2 := blk_ext hY1 hx2 (by omega)
  have hE2 := hE1.trans hx2
  go_wp2_with fail
  refine (ray_any B 6 9 _ h2 (by omega) (by omega) (by omega)).mono ?_; rintro e w3 ⟨r0, r1, r2, rfl, ⟨r0_0, r0_1⟩, ⟨r1_0, r1_1⟩, ⟨r2_0, r2_1⟩, h3, hx3⟩
  have hX3 := blk_ext hX2 hx3 (by omega)
  have hY3 := blk_ext hY2 hx3 (by omega)
  have hE3 := hE2.trans hx3
  have hBl := hB1.trans (hE3.below (N := w.heap.size) (by omega) (by omega))
  clear hE1 h1
  clear hE2 h2
  clear hE3 h3
  clear hX1 hY1 hX2 hY2
  have n_XY : w.heap.size ≠ w.heap.size + 1 := by omega
  have n_YX : w.heap.size + 1 ≠ w.heap.size := by omega
  have e_X : w.heap.size ≤ w.heap.size := by omega
  have e_Y : w.heap.size ≤ w.heap.size + 1 := by omega
  obtain ⟨_, _, _, _, _, _, _⟩ := blk3 hX3
  obtain ⟨_, _, _, _, _, _, _⟩ := blk3 hY3
  go_wp2_with fail
  have tX1 := blk3_at0 (v := .int .i64 a0) hX3
  have tY1 := blk_setOther (i := 0) hY3 n_YX (.int .i64 a0)
  have tB1 := below_alls hBl e_X 0 (.int .i64 a0)
  have tX2 := blk3_at1 (v := .int .i64 a1) tX1
  have tY2 := blk_setOther (i := 1) tY1 n_YX (.int .i64 a1)
  have tB2 := below_alls tB1 e_X 1 (.int .i64 a1)
  have tX3 := blk3_at2 (v := .int .i64 a2) tX2
  have tY3 := blk_setOther (i := 2) tY2 n_YX (.int .i64 a2)
  have tB3 := below_alls tB2 e_X 2 (.int .i64 a2)
  have tX4 := blk_setOther (i := 0) tX3 n_XY (.int .i64 r0)
  have tY4 := blk3_at0 (v := .int .i64 r0) tY3
  have tB4 := below_alls tB3 e_Y 0 (.int .i64 r0)
  have tX5 := blk_setOther (i := 1) tX4 n_XY (.int .i64 r1)
  have tY5 := blk3_at1 (v := .int .i64 r1) tY4
  have tB5 := below_alls tB4 e_Y 1 (.int .i64 r1)
  have tX6 := blk_setOther (i := 2) tX5 n_XY (.int .i64 r2)
  have tY6 := blk3_at2 (v := .int .i64 r2) tY5
  have tB6 := below_alls tB5 e_Y 2 (.int .i64 r2)
  clear tX1 tX2 tX3 tX4 tX5 tY1 tY2 tY3 tY4 tY5 tB1 tB2 tB3 tB4 tB5
  generalize (World.setCell (World.setCell (World.setCell (World.setCell (World.setCell (World.setCell w3 ⟨w.heap.size, 0, none⟩ (.int .i64 a0)) ⟨w.heap.size, 1, none⟩ (.int .i64 a1)) ⟨w.heap.size, 2, none⟩ (.int .i64 a2)) ⟨w.heap.size + 1, 0, none⟩ (.int .i64 r0)) ⟨w.heap.size + 1, 1, none⟩ (.int .i64 r1)) ⟨w.heap.size + 1, 2, none⟩ (.int .i64 r2)) = wq at tX6 tY6 tB6 ⊢
  obtain ⟨x0_, x1_, x2_, _, _, _, _⟩ := blk3 (tX6)
  obtain ⟨y0_, y1_, y2_, _, _, _, _⟩ := blk3 (tY6)
  exact bodyPost_ret (v := .tuple #[.agg #[.int .i64 a0, .int .i64 a1, .int .i64 a2], .agg #[.int .i64 r0, .int .i64 r1, .int .i64 r2]]) (by simp [results, Try.results15, go_sem, x0_, x1_, x2_, y0_, y1_, y2_]) rfl ⟨_, _, _, _, _, _, rfl, ⟨by omega, by omega⟩, ⟨by omega, by omega⟩, ⟨by omega, by omega⟩, ⟨by omega, by omega⟩, ⟨by omega, by omega⟩, ⟨by omega, by omega⟩, tB6⟩
set_option maxHeartbeats 1000000 in
theorem iRT7 (e n u : Int) (w : World) (hv : ryB e n u = true) :
    Calls Try.prog 18 #[.agg #[.int .i64 e, .int .i64 n, .int .i64 u]] w fun E w' => E = .returned (.agg #[.int .i64 (-n), .int .i64 e, .int .i64 u]) ∧ Below w.heap.size w w' := by
  have bd := ryB_iff.1 hv
  have HV := Lib.hid hv
  clear hv
  go_enter Try.func18, Try.ntmps18
  go_wp2_with fail
  refine (iRV7_is _ HV.out).mono ?_; rintro E w1 ⟨rfl, hw1⟩
  obtain ⟨hP1, hQ1, hB1⟩ := ownb2 hw1
  obtain ⟨cP0, cP1, cP2, fP0, fP1, fP2, zP⟩ := blk3 hP1
  obtain ⟨cQ0, cQ1, cQ2, fQ0, fQ1, fQ2, zQ⟩ := blk3 hQ1
  go_wp2
  refine bodyPost_ret (v := .agg #[.int .i64 (-n), .int .i64 e, .int .i64 u]) (by simp [results, Try.results18, go_sem, cQ0, cQ1, cQ2]) rfl ⟨rfl, ?_⟩
  repeat (first | exact hB1 | refine Below.setCell ?_ (by simp <;> omega) _ | refine Below.alloc ?_ (by simp <;> omega) _)
end Go.Proofs.Ytfgaggdiepielaa
