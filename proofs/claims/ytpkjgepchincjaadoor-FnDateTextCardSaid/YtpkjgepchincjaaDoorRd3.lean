/- The reader of a code: chances, and dates that are drawn. -/
import Derived.Test.YtpkjgepchincjaaDoorRd2
import Derived.Deep.DeepCutAuto
import Derived.Deep.CutBlock
namespace Go.Proofs.YtpkjgepchincjaaDoor
open Go.ChangeShapes Go.WideShapes Go.ChangeAt Go.RowKit
set_option linter.unusedSimpArgs false

/-- At block C lies a date with small numbers. -/
def DateAt (C : Nat) (w : World) : Prop :=
  ∃ y m d : Int, w.heap[C]? = some (.cells #[.int .i64 y, .int .i64 m, .int .i64 d] 24 (0, 0)) ∧ -10 ≤ y ∧ y ≤ 5000 ∧ -10 ≤ m ∧ m ≤ 100 ∧ -10 ≤ d ∧ d ≤ 100
def DrawnDate (B : Nat) (u : Int) (w : World) (e : Ending) (w' : World) : Prop :=
  ∃ y m d : Int, e = .returned (.agg #[.int .i64 y, .int .i64 m, .int .i64 d]) ∧ -10 ≤ y ∧ y ≤ 5000 ∧ -10 ≤ m ∧ m ≤ 100 ∧ -10 ≤ d ∧ d ≤ 100 ∧ RdU B u w' ∧ Ext B w w'
set_option maxRecDepth 100000 in
set_option maxHeartbeats 8000000 in
theorem date_any (B : Nat) (u n : Int) (w : World) (h : RdU B u w) (hu : u ≤ 800000) (hn : 0 ≤ n) (hn1 : n ≤ 1000000) :
    Calls Tryd.prog 18 #[.pointer (some ⟨B, 0, none⟩), .int .i64 n] w (DrawnDate B (u + 20) w) := by
  have hBw := h.lt
  go_enter Tryd.func18, Tryd.ntmps18
  go_wp2_with fail
  refine (pick_any B u 256 _ (h.alloc _) (by omega) (by omega) (by omega)).mono ?_; rintro e w1 ⟨a1, rfl, a10, a11, h1, hx1⟩
  go_wp2_with fail
  refine (pick_any B (u + 1) 16 _ h1 (by omega) (by omega) (by omega)).mono ?_; rintro e w2 ⟨a2, rfl, a20, a21, h2, hx2⟩
  go_wp2_with fail
  refine (pick_any B (u + 1 + 1) 12 _ h2 (by omega) (by omega) (by omega)).mono ?_; rintro e w3 ⟨a3, rfl, a30, a31, h3, hx3⟩
  go_wp2_with fail
  refine (pick_any B (u + 1 + 1 + 1) 28 _ h3 (by omega) (by omega) (by omega)).mono ?_; rintro e w4 ⟨a4, rfl, a40, a41, h4, hx4⟩
  go_upto_block 0 with fail
  have hB4 := h4.lt
  have hB1 := h1.lt
  refine (pick_any B (u + 1 + 1 + 1 + 1) 5 _ (h4.alloc _) (by omega) (by omega) (by omega)).mono ?_; rintro e w5 ⟨a5, rfl, a50, a51, h5, hx5⟩
  have hR4 := blk_ext (blk_ext (blk_ext (blk_ext (blk_new w _) hx1 (by omega)) hx2 (by omega)) hx3 (by omega)) hx4 (by omega)
  have hRC := blk_lt hR4
  have hR := blk_ext (blk_old hR4 _) hx5 (by omega)
  have hC := blk_ext (blk_new w4 _) hx5 (by omega)
  have hE : Ext B w w5 := ((((((Ext.refl B w).alloc _).trans hx1).trans hx2).trans hx3).trans hx4 |>.alloc _).trans hx5
  clear hx1 hx2 hx3 hx4 hx5 hR4 h1 h2 h3 h4 hB1
  generalize w4.heap.size = C at *
  go_upto_block 0 with fail
  go_cut [] (fun wx => DateAt C wx ∧ wx.heap[w.heap.size]? = some (.cells #[.int .i64 0, .int .i64 0, .int .i64 0] 24 (0, 0)) ∧ RdU B (u + 8) wx ∧ Ext B w wx)
  case first =>
    by_cases k0 : a5 = 0
    · subst k0
      go_wp2_with fail
      refine (pick_any B (u + 1 + 1 + 1 + 1 + 1) 40 _ h5 (by omega) (by omega) (by omega)).mono ?_; rintro e w6 ⟨b1, rfl, b10, b11, h6, hx6⟩
      have hC6 := blk_ext hC hx6 (by omega)
      have hR6 := blk_ext hR hx6 (by omega)
      obtain ⟨c0, c1, c2, f0, f1, f2, hz⟩ := blk3 hC6
      go_wp2_with fail
      all_goals (go_meet; exact ⟨⟨_, _, _, (blk3_set (blk3_set (blk3_set hC6).1).2.1).2.2, by omega, by omega, by omega, by omega, by omega, by omega⟩, blk_setOther (blk_setOther (blk_setOther hR6 (by omega) _) (by omega) _) (by omega) _, (((h6.mono (by omega)).setOther (by omega) _).setOther (by omega) _).setOther (by omega) _, (((hE.trans hx6).setNew (by omega) _ _).setNew (by omega) _ _).setNew (by omega) _ _⟩)
    · have e0 : (a5 == 0) = false := by rw [beq_eq_false_iff_ne]; omega
      by_cases k1 : a5 = 1
      · subst k1
        clear e0 k0
        go_wp2_with fail
        have hz5 := h5.lt
        have hc5 := blk_lt hC
        refine (pick_any B (u + 1 + 1 + 1 + 1 + 1) 2 _ (h5.alloc _) (by omega) (by omega) (by omega)).mono ?_; rintro e w6 ⟨b1, rfl, b10, b11, h6, hx6⟩
        have hC6 := blk_ext (blk_old hC _) hx6 (by omega)
        have hR6 := blk_ext (blk_old hR _) hx6 (by omega)
        obtain ⟨v, hv, v0, v1⟩ := blk_int_at [1, 12] (blk_ext (blk_new w5 _) hx6 (by omega)) 1 12 (by decide) b1.toNat (by simp; omega)
        obtain ⟨c0, c1, c2, f0, f1, f2, hz⟩ := blk3 hC6
        have hE6 := (hE.alloc _).trans hx6
        go_wp2_with fail
        have hC7 := (blk3_set (v := .int .i64 v) hC6).2.1
        have hR7 := blk_setOther (C := C) (i := 1) hR6 (by omega) (.int .i64 v)
        have h7 := h6.setOther (C := C) (i := 1) (by omega) (.int .i64 v)
        have hE7 := hE6.setNew (C := C) (by omega) 1 (.int .i64 v)
        have hn7 : (w6.setCell ⟨C, 1, none⟩ (.int .i64 v)).heap.size = w6.heap.size := by simp [World.setCell]
        generalize w6.setCell ⟨C, 1, none⟩ (.int .i64 v) = w7 at *
        have HN := Lib.hid hn7
        have hz7 := h7.lt
        have hc7 := blk_lt hC7
        refine (pick_any B _ 6 _ (h7.alloc _) (by omega) (by omega) (by omega)).mono ?_; rintro e w8 ⟨b2, rfl, b20, b21, h8, hx8⟩
        have hC8 := blk_ext (blk_old hC7 _) hx8 (by omega)
        have hR8 := blk_ext (blk_old hR7 _) hx8 (by omega)
        have hL := blk_ext (blk_new w7 _) hx8 (by omega)
        rw [HN.out] at hL
        obtain ⟨v', hv', v0', v1'⟩ := blk_int_at [1, 2, 3, 29, 30, 31] hL 1 31 (by decide) b2.toNat (by simp; omega)
        clear hL hn7
        obtain ⟨g0, g1, g2, q0, q1, q2, hz'⟩ := blk3 hC8
        have hE8 := (hE7.alloc _).trans hx8
        go_wp2_with fail
        go_meet
        exact ⟨⟨_, _, _, (blk3_set hC8).2.2, by omega, by omega, by omega, by omega, by omega, by omega⟩, blk_setOther hR8 (by omega) _, (h8.mono (by omega)).setOther (by omega) _, hE8.setNew (by omega) _ _⟩
      · have e1 : (a5 == 1) = false := by rw [beq_eq_false_iff_ne]; omega
        clear k0 k1
        go_wp2_with fail
        go_meet
        exact ⟨⟨_, _, _, hC, by omega, by omega, by omega, by omega, by omega, by omega⟩, hR, h5.mono (by omega), hE⟩
  case rest =>
    obtain ⟨⟨y, m, d, hC, y0, y1, m0, m1, d0, d1⟩, hR, h6, hE⟩ := hcut
    obtain ⟨c0, c1, c2, f0, f1, f2, hz⟩ := blk3 hC
    clear h5
    go_wp2_with fail
    all_goals
      refine (odd0_any B (u + 8) n _ (h6.setOther (by omega) _) (by omega) hn hn1).mono ?_; rintro e w7 ⟨b, rfl, h7, hx7⟩
      have hC7 := blk_ext (blk3_set hC).1 hx7 (by omega)
      have hR7 := blk_ext (blk_setOther hR (by omega) _) hx7 (by omega)
      have hE7 := (hE.setNew (by omega) _ _).trans hx7
      clear hC c0 c1 c2 f0 f1 f2 hz hx7 hR hE h6
      go_upto_if 52 with fail
      go_cut [] (fun wx => DateAt C wx ∧ wx.heap[w.heap.size]? = some (.cells #[.int .i64 0, .int .i64 0, .int .i64 0] 24 (0, 0)) ∧ RdU B (u + 12) wx ∧ Ext B w wx)
      case first =>
        cases b
        · go_wp2_with fail
          go_meet
          exact ⟨⟨_, _, _, hC7, by omega, by omega, by omega, by omega, by omega, by omega⟩, hR7, h7.mono (by omega), hE7⟩
        · go_wp2_with fail
          refine (pick_any B _ 4 _ h7 (by omega) (by omega) (by omega)).mono ?_; rintro e w8 ⟨k, rfl, k0, k1, h8, hx8⟩
          have hC8 := blk_ext hC7 hx8 (by omega)
          have hR8 := blk_ext hR7 hx8 (by omega)
          have hE8 := hE7.trans hx8
          clear hC7 hR7 hE7 hx8 h7
          have hk : k = 0 ∨ k = 1 ∨ k = 2 ∨ k = 3 := by omega
          rcases hk with rfl | rfl | rfl | rfl
          · go_wp2_with fail
            have hz8 := h8.lt
            have hc8 := blk_lt hC8
            refine (pick_any B _ 2 _ (h8.alloc _) (by omega) (by omega) (by omega)).mono ?_; rintro e w9 ⟨b2, rfl, b20, b21, h9, hx9⟩
            have hC9 := blk_ext (blk_old hC8 _) hx9 (by omega)
            have hR9 := blk_ext (blk_old hR8 _) hx9 (by omega)
            obtain ⟨v, hv, v0, v1⟩ := blk_int_at [0, 4001] (blk_ext (blk_new w8 _) hx9 (by omega)) 0 4001 (by decide) b2.toNat (by simp; omega)
            obtain ⟨c0, c1, c2, f0, f1, f2, hz⟩ := blk3 hC9
            have hE9 := (hE8.alloc _).trans hx9
            go_wp2_with fail
            go_meet
            exact ⟨⟨_, _, _, (blk3_set hC9).1, by omega, by omega, by omega, by omega, by omega, by omega⟩, blk_setOther hR9 (by omega) _, (h9.mono (by omega)).setOther (by omega) _, hE9.setNew (by omega) _ _⟩
          · go_wp2_with fail
            have hz8 := h8.lt
            have hc8 := blk_lt hC8
            refine (pick_any B _ 2 _ (h8.alloc _) (by omega) (by omega) (by omega)).mono ?_; rintro e w9 ⟨b2, rfl, b20, b21, h9, hx9⟩
            have hC9 := blk_ext (blk_old hC8 _) hx9 (by omega)
            have hR9 := blk_ext (blk_old hR8 _) hx9 (by omega)
            obtain ⟨v, hv, v0, v1⟩ := blk_int_at [0, 13] (blk_ext (blk_new w8 _) hx9 (by omega)) 0 13 (by decide) b2.toNat (by simp; omega)
            obtain ⟨c0, c1, c2, f0, f1, f2, hz⟩ := blk3 hC9
            have hE9 := (hE8.alloc _).trans hx9
            go_wp2_with fail
            go_meet
            exact ⟨⟨_, _, _, (blk3_set hC9).2.1, by omega, by omega, by omega, by omega, by omega, by omega⟩, blk_setOther hR9 (by omega) _, (h9.mono (by omega)).setOther (by omega) _, hE9.setNew (by omega) _ _⟩
          · go_wp2_with fail
            have hz8 := h8.lt
            have hc8 := blk_lt hC8
            refine (pick_any B _ 2 _ (h8.alloc _) (by omega) (by omega) (by omega)).mono ?_; rintro e w9 ⟨b2, rfl, b20, b21, h9, hx9⟩
            have hC9 := blk_ext (blk_old hC8 _) hx9 (by omega)
            have hR9 := blk_ext (blk_old hR8 _) hx9 (by omega)
            obtain ⟨v, hv, v0, v1⟩ := blk_int_at [0, 32] (blk_ext (blk_new w8 _) hx9 (by omega)) 0 32 (by decide) b2.toNat (by simp; omega)
            obtain ⟨c0, c1, c2, f0, f1, f2, hz⟩ := blk3 hC9
            have hE9 := (hE8.alloc _).trans hx9
            go_wp2_with fail
            go_meet
            exact ⟨⟨_, _, _, (blk3_set hC9).2.2, by omega, by omega, by omega, by omega, by omega, by omega⟩, blk_setOther hR9 (by omega) _, (h9.mono (by omega)).setOther (by omega) _, hE9.setNew (by omega) _ _⟩
          · obtain ⟨c0, c1, c2, f0, f1, f2, hz⟩ := blk3 hC8
            have hz8 := h8.lt
            have hc8 := blk_lt hC8
            go_wp2_with fail
            refine (pick_any B _ 2 _ (h8.setOther (by omega) _) (by omega) (by omega) (by omega)).mono ?_; rintro e w9 ⟨b2, rfl, b20, b21, h9, hx9⟩
            have hC9 := blk_ext (blk3_set hC8).2.1 hx9 (by omega)
            have hR9 := blk_ext (blk_setOther hR8 (by omega) _) hx9 (by omega)
            have hE9 := (hE8.setNew (by omega) _ _).trans hx9
            obtain ⟨d0', d1', d2', g0, g1, g2, hz9⟩ := blk3 hC9
            go_wp2_with fail
            go_meet
            exact ⟨⟨_, _, _, (blk3_set hC9).2.2, by omega, by omega, by omega, by omega, by omega, by omega⟩, blk_setOther hR9 (by omega) _, (h9.mono (by omega)).setOther (by omega) _, hE9.setNew (by omega) _ _⟩
      case rest =>
        obtain ⟨⟨y, m, d, hC, y0, y1, m0, m1, d0, d1⟩, hR, h6, hE⟩ := hcut
        obtain ⟨c0, c1, c2, f0, f1, f2, hz⟩ := blk3 hC
        obtain ⟨q0, q1, q2, p0, p1, p2, hz⟩ := blk3 hR
        go_wp2_with fail
        exact bodyPost_ret (v := .agg #[.int .i64 y, .int .i64 m, .int .i64 d]) (by simp [results, Tryd.results18, go_sem, q0, q1, q2]) rfl ⟨_, _, _, rfl, y0, y1, m0, m1, d0, d1, ((((h6.mono (by omega)).setOther (by omega) _).setOther (by omega) _).setOther (by omega) _), ((hE.setNew (by omega) _ _).setNew (by omega) _ _).setNew (by omega) _ _⟩
end Go.Proofs.YtpkjgepchincjaaDoor
