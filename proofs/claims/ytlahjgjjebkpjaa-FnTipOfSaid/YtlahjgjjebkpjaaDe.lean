/- What the law of tips draws. -/
import Derived.Test.YtlahjgjjebkpjaaDd
import Derived.Test.YtlahjgjjebkpjaaVv
import Derived.Test.YtlahjgjjebkpjaaVy
namespace Go.Proofs.Ytlahjgjjebkpjaa
open Go Go.ChangeShapes Go.WideShapes Go.ChangeAt Go.RowKit
set_option linter.unusedSimpArgs false
set_option linter.unusedVariables false

def DrewTipOf (w : World) (e : Ending) (w' : World) : Prop := ∃ p0 p1 hh r0 r1 r2 : Int, e = .returned (.tuple #[.agg #[.int .i64 p0, .int .i64 p1], .int .i64 hh, .agg #[.int .i64 r0, .int .i64 r1, .int .i64 r2]]) ∧ (-200 ≤ p0 ∧ p0 ≤ 200) ∧ (-200 ≤ p1 ∧ p1 ≤ 200) ∧ (-200 ≤ hh ∧ hh ≤ 200) ∧ (-200 ≤ r0 ∧ r0 ≤ 200) ∧ (-200 ≤ r1 ∧ r1 ≤ 200) ∧ (-200 ≤ r2 ∧ r2 ≤ 200) ∧ Below w.heap.size w w'
set_option maxRecDepth 100000 in
set_option maxHeartbeats 8000000 in
theorem drTipOf_any (a : Option Addr) (len cap : Nat) (w : World) (h : CodeOk w a len cap) : Calls Try.prog 22 #[.slice a len cap] w (DrewTipOf w) := by
  have hX1 := code_below h (bel2 w (.cells #[.int .i64 0, .int .i64 0] 24 (0, 0)) (.cells #[.int .i64 0, .int .i64 0, .int .i64 0] 34 (0, 0)))
  go_enter Try.func22, Try.ntmps22
  go_wp2_with fail
  refine (open_any _ _ _ _ hX1).mono ?_; rintro e w1 ⟨B, rfl, hB, h1, hb1⟩
  clear hX1
  obtain ⟨hX1, hY1, hB1⟩ := ownb2 hb1
  have hz1 := blk_lt hY1
  have hB' : w.heap.size + 1 < B := by simp at hB; omega
  clear hB
  have hE1 : Ext B w1 w1 := Ext.refl B w1
  go_wp2_with fail
  refine (place_any B 0 14 _ h1 (by omega) (by omega) (by omega)).mono ?_; rintro e w2 ⟨p0, p1, rfl, ⟨p0_0, p0_1⟩, ⟨p1_0, p1_1⟩, h2, hx2⟩
  have hX2 := blk_ext hX1 hx2 (by omega)
  have hY2 := blk_ext hY1 hx2 (by omega)
  have hE2 := hE1.trans hx2
  go_wp2_with fail
  refine (pick_any B (0 + 4) 31 _ h2 (by omega) (by omega) (by omega)).mono ?_; rintro e w3 ⟨a1, rfl, a10, a11, h3, hx3⟩
  have hX3 := blk_ext hX2 hx3 (by omega)
  have hY3 := blk_ext hY2 hx3 (by omega)
  have hE3 := hE2.trans hx3
  go_wp2_with fail
  refine (pick_any B (0 + 4 + 1) 30 _ h3 (by omega) (by omega) (by omega)).mono ?_; rintro e w4 ⟨a2, rfl, a20, a21, h4, hx4⟩
  have hX4 := blk_ext hX3 hx4 (by omega)
  have hY4 := blk_ext hY3 hx4 (by omega)
  have hE4 := hE3.trans hx4
  obtain ⟨v2, ev2, v20, v21⟩ : ∃ z : Int, a2.tdiv 29 = z ∧ 0 ≤ z ∧ z ≤ 1 := ⟨_, rfl, by rw [Int.tdiv_eq_ediv_of_nonneg (by omega)]; omega, by rw [Int.tdiv_eq_ediv_of_nonneg (by omega)]; omega⟩
  go_wp2_with fail
  refine (pick_any B (0 + 4 + 1 + 1) 30 _ h4 (by omega) (by omega) (by omega)).mono ?_; rintro e w5 ⟨a3, rfl, a30, a31, h5, hx5⟩
  have hX5 := blk_ext hX4 hx5 (by omega)
  have hY5 := blk_ext hY4 hx5 (by omega)
  have hE5 := hE4.trans hx5
  obtain ⟨v3, ev3, v30, v31⟩ : ∃ z : Int, a3.tdiv 29 = z ∧ 0 ≤ z ∧ z ≤ 1 := ⟨_, rfl, by rw [Int.tdiv_eq_ediv_of_nonneg (by omega)]; omega, by rw [Int.tdiv_eq_ediv_of_nonneg (by omega)]; omega⟩
  go_wp2_with fail
  refine (ray_any B (0 + 4 + 1 + 1 + 1) 14 _ h5 (by omega) (by omega) (by omega)).mono ?_; rintro e w6 ⟨r0, r1, r2, rfl, ⟨r0_0, r0_1⟩, ⟨r1_0, r1_1⟩, ⟨r2_0, r2_1⟩, h6, hx6⟩
  have hX6 := blk_ext hX5 hx6 (by omega)
  have hY6 := blk_ext hY5 hx6 (by omega)
  have hE6 := hE5.trans hx6
  have hBl := hB1.trans (hE6.below (N := w.heap.size) (by omega) (by omega))
  clear hE1 h1 hE2 h2 hE3 h3 hE4 h4 hE5 h5 hE6 h6
  clear hX1 hY1 hX2 hY2 hX3 hY3 hX4 hY4 hX5 hY5
  have n_XY : w.heap.size ≠ w.heap.size + 1 := by omega
  have n_YX : w.heap.size + 1 ≠ w.heap.size := by omega
  have e_X : w.heap.size ≤ w.heap.size := by omega
  have e_Y : w.heap.size ≤ w.heap.size + 1 := by omega
  obtain ⟨_, _, _, _, _⟩ := blk2 hX6
  obtain ⟨_, _, _, _, _, _, _⟩ := blk3 hY6
  go_wp2_with fail
  have tX1 := blk2_at0 (v := .int .i64 p0) hX6
  have tY1 := blk_setOther (i := 0) hY6 n_YX (.int .i64 p0)
  have tB1 := below_alls hBl e_X 0 (.int .i64 p0)
  have tX2 := blk2_at1 (v := .int .i64 p1) tX1
  have tY2 := blk_setOther (i := 1) tY1 n_YX (.int .i64 p1)
  have tB2 := below_alls tB1 e_X 1 (.int .i64 p1)
  have tX3 := blk_setOther (i := 0) tX2 n_XY (.int .i64 r0)
  have tY3 := blk3_at0 (v := .int .i64 r0) tY2
  have tB3 := below_alls tB2 e_Y 0 (.int .i64 r0)
  have tX4 := blk_setOther (i := 1) tX3 n_XY (.int .i64 r1)
  have tY4 := blk3_at1 (v := .int .i64 r1) tY3
  have tB4 := below_alls tB3 e_Y 1 (.int .i64 r1)
  have tX5 := blk_setOther (i := 2) tX4 n_XY (.int .i64 r2)
  have tY5 := blk3_at2 (v := .int .i64 r2) tY4
  have tB5 := below_alls tB4 e_Y 2 (.int .i64 r2)
  clear tX1 tX2 tX3 tX4 tY1 tY2 tY3 tY4 tB1 tB2 tB3 tB4
  generalize (World.setCell (World.setCell (World.setCell (World.setCell (World.setCell w6 ⟨w.heap.size, 0, none⟩ (.int .i64 p0)) ⟨w.heap.size, 1, none⟩ (.int .i64 p1)) ⟨w.heap.size + 1, 0, none⟩ (.int .i64 r0)) ⟨w.heap.size + 1, 1, none⟩ (.int .i64 r1)) ⟨w.heap.size + 1, 2, none⟩ (.int .i64 r2)) = wq at tX5 tY5 tB5 ⊢
  obtain ⟨x0_, x1_, _, _, _⟩ := blk2 tX5
  obtain ⟨y0_, y1_, y2_, _, _, _, _⟩ := blk3 tY5
  exact bodyPost_ret (v := .tuple #[.agg #[.int .i64 p0, .int .i64 p1], .int .i64 (a1 + v2 * 31 - v3 * 40), .agg #[.int .i64 r0, .int .i64 r1, .int .i64 r2]]) (by simp [results, Try.results22, go_sem, x0_, x1_, y0_, y1_, y2_]) rfl ⟨_, _, _, _, _, _, rfl, ⟨by omega, by omega⟩, ⟨by omega, by omega⟩, ⟨by omega, by omega⟩, ⟨by omega, by omega⟩, ⟨by omega, by omega⟩, ⟨by omega, by omega⟩, tB5⟩
theorem iTip_is {e n h re rn ru p q : Int} (w : World) (hv : tpB e n h re rn ru = true) (hp : tipN e re h ru = p) (hq : tipN n rn h ru = q) : Calls Try.prog 23 #[.agg #[.int .i64 e, .int .i64 n], .int .i64 h, .agg #[.int .i64 re, .int .i64 rn, .int .i64 ru]] w fun E w' => E = .returned (.tuple #[.agg #[.int .i64 p, .int .i64 q, .int .i64 ru], .bool true]) ∧ Below w.heap.size w w' := by subst hp; subst hq; exact iTip_t e n h re rn ru w hv
theorem sTip_is {e n h re rn ru p q : Int} (w : World) (hv : tpB e n h re rn ru = true) (hp : tipN e re h ru = p) (hq : tipN n rn h ru = q) : Calls Try.prog 24 #[.agg #[.int .i64 e, .int .i64 n], .int .i64 h, .agg #[.int .i64 re, .int .i64 rn, .int .i64 ru]] w fun E w' => E = .returned (.tuple #[.agg #[.int .i64 p, .int .i64 q, .int .i64 ru], .bool true]) ∧ Below w.heap.size w w' := by subst hp; subst hq; exact sTip_t e n h re rn ru w hv
end Go.Proofs.Ytlahjgjjebkpjaa
