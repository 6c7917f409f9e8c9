/- What the laws of lines draw out of a code. -/
import Derived.Test.YtgbelpkhfaajoabDw
import Derived.Test.YtgbelpkhfaajoabDr5
import Derived.Test.YtgbelpkhfaajoabHw
import Derived.RegionTactic
namespace Go.Proofs.Ytgbelpkhfaajoab
open Go Go.ChangeShapes Go.WideShapes Go.ChangeAt Go.RowKit
set_option linter.unusedSimpArgs false
set_option linter.unusedVariables false

def DrewH1 (lo hi : Int) (w : World) (e : Ending) (w' : World) : Prop := ∃ k : Int, e = .returned (.int .i64 k) ∧ lo ≤ k ∧ k ≤ hi ∧ Below w.heap.size w w'
def DrewLH (w : World) (e : Ending) (w' : World) : Prop := ∃ l h : Int, e = .returned (.tuple #[.int .i64 l, .int .i64 h]) ∧ -200 ≤ l ∧ l ≤ 200 ∧ -40 ≤ h ∧ h ≤ 40 ∧ Below w.heap.size w w'
def DrewLW (m : Int) (w : World) (e : Ending) (w' : World) : Prop := ∃ l a b : Int, e = .returned (.tuple #[.int .i64 l, .agg #[.int .i64 a, .int .i64 b]]) ∧ -200 ≤ l ∧ l ≤ 200 ∧ -m ≤ a ∧ a ≤ m ∧ -m ≤ b ∧ b ≤ m ∧ Below w.heap.size w w'
def DrewS (w : World) (e : Ending) (w' : World) : Prop := ∃ s : ByteArray, e = .returned (.string s) ∧ s.size ≤ 100 ∧ Below w.heap.size w w'
set_option maxHeartbeats 1000000 in
theorem lat_any (B : Nat) (u : Int) (w : World) (h : RdU B u w) (hu : u ≤ 800000) : Calls Try.prog 46 #[.pointer (some ⟨B, 0, none⟩)] w (IntIs B (u + 3) (-94) 179 w) := by
  go_enter Try.func46, Try.ntmps46
  go_wp2_with fail
  refine (pick_any B u 89 _ h (by omega) (by omega) (by omega)).mono ?_; rintro e w1 ⟨k, rfl, k0, k1, h1, hx1⟩
  go_wp2_with fail
  refine (pick_any B _ 30 _ h1 (by omega) (by omega) (by omega)).mono ?_; rintro e w2 ⟨q, rfl, q0, q1, h2, hx2⟩
  go_wp2_with fail
  refine (pick_any B _ 30 _ h2 (by omega) (by omega) (by omega)).mono ?_; rintro e w3 ⟨j, rfl, j0, j1, h3, hx3⟩
  go_wp2
  go_ret
  exact ⟨_, rfl, by omega, by omega, h3.mono (by omega), (hx1.trans hx2).trans hx3⟩
set_option maxHeartbeats 1000000 in
theorem hr_any (B : Nat) (u : Int) (w : World) (h : RdU B u w) (hu : u ≤ 800000) : Calls Try.prog 47 #[.pointer (some ⟨B, 0, none⟩)] w (IntIs B (u + 3) (-36) 35 w) := by
  go_enter Try.func47, Try.ntmps47
  go_wp2_with fail
  refine (pick_any B u 24 _ h (by omega) (by omega) (by omega)).mono ?_; rintro e w1 ⟨k, rfl, k0, k1, h1, hx1⟩
  go_wp2_with fail
  refine (pick_any B _ 30 _ h1 (by omega) (by omega) (by omega)).mono ?_; rintro e w2 ⟨q, rfl, q0, q1, h2, hx2⟩
  go_wp2_with fail
  refine (pick_any B _ 30 _ h2 (by omega) (by omega) (by omega)).mono ?_; rintro e w3 ⟨j, rfl, j0, j1, h3, hx3⟩
  go_wp2
  go_ret
  exact ⟨_, rfl, by omega, by omega, h3.mono (by omega), (hx1.trans hx2).trans hx3⟩
set_option maxHeartbeats 1000000 in
theorem drHourValid_any (a : Option Addr) (len cap : Nat) (w : World) (h : CodeOk w a len cap) : Calls Try.prog 11 #[.slice a len cap] w (DrewH1 (-20) 19 w) := by
  go_enter Try.func11, Try.ntmps11
  go_wp2_with fail
  refine (open_any _ _ _ _ h).mono ?_; rintro e w1 ⟨B, rfl, hB, h1, hb1⟩
  go_wp2_with fail
  refine (pick_any B 0 40 _ h1 (by omega) (by omega) (by omega)).mono ?_; rintro e w2 ⟨k, rfl, k0, k1, h2, hx2⟩
  go_wp2
  go_ret
  exact ⟨_, rfl, by omega, by omega, hb1.trans (hx2.below hB hb1.size)⟩
set_option maxHeartbeats 1000000 in
theorem drLinesOf_any (a : Option Addr) (len cap : Nat) (w : World) (h : CodeOk w a len cap) : Calls Try.prog 22 #[.slice a len cap] w (DrewH1 (-94) 179 w) := by
  go_enter Try.func22, Try.ntmps22
  go_wp2_with fail
  refine (open_any _ _ _ _ h).mono ?_; rintro e w1 ⟨B, rfl, hB, h1, hb1⟩
  go_wp2_with fail
  refine (lat_any B 0 _ h1 (by omega)).mono ?_; rintro e w2 ⟨k, rfl, k0, k1, h2, hx2⟩
  go_wp2
  go_ret
  exact ⟨_, rfl, k0, k1, hb1.trans (hx2.below hB hb1.size)⟩
set_option maxHeartbeats 1000000 in
theorem drLineOf_any (a : Option Addr) (len cap : Nat) (w : World) (h : CodeOk w a len cap) : Calls Try.prog 15 #[.slice a len cap] w (DrewLH w) := by
  go_enter Try.func15, Try.ntmps15
  go_wp2_with fail
  refine (open_any _ _ _ _ h).mono ?_; rintro e w1 ⟨B, rfl, hB, h1, hb1⟩
  go_wp2_with fail
  refine (lat_any B 0 _ h1 (by omega)).mono ?_; rintro e w2 ⟨k, rfl, k0, k1, h2, hx2⟩
  go_wp2_with fail
  refine (hr_any B _ _ h2 (by omega)).mono ?_; rintro e w3 ⟨j, rfl, j0, j1, h3, hx3⟩
  go_wp2
  go_ret2
  exact ⟨_, _, rfl, by omega, by omega, by omega, by omega, hb1.trans ((hx2.trans hx3).below hB hb1.size)⟩
set_option maxHeartbeats 1000000 in
theorem drWallOf_any (a : Option Addr) (len cap : Nat) (w : World) (h : CodeOk w a len cap) : Calls Try.prog 19 #[.slice a len cap] w (DrewLH w) := by
  go_enter Try.func19, Try.ntmps19
  go_wp2_with fail
  refine (open_any _ _ _ _ h).mono ?_; rintro e w1 ⟨B, rfl, hB, h1, hb1⟩
  go_wp2_with fail
  refine (lat_any B 0 _ h1 (by omega)).mono ?_; rintro e w2 ⟨k, rfl, k0, k1, h2, hx2⟩
  go_wp2_with fail
  refine (hr_any B _ _ h2 (by omega)).mono ?_; rintro e w3 ⟨j, rfl, j0, j1, h3, hx3⟩
  go_wp2
  go_ret2
  exact ⟨_, _, rfl, by omega, by omega, by omega, by omega, hb1.trans ((hx2.trans hx3).below hB hb1.size)⟩
set_option maxHeartbeats 2000000 in
theorem drHourBefore_any (a : Option Addr) (len cap : Nat) (w : World) (h : CodeOk w a len cap) : Calls Try.prog 30 #[.slice a len cap] w (DrewLW 1001 w) := by
  go_enter Try.func30, Try.ntmps30
  go_wp2_with fail
  refine (open_any _ _ _ _ (code_below h (bel1 _ _))).mono ?_; rintro e w1 ⟨B, rfl, hB, h1, hb1⟩
  obtain ⟨hH1, hB1⟩ := ownb hb1
  have hz1 := blk_lt hH1
  have hB' : w.heap.size < B := by simp at hB; omega
  clear hB
  go_wp2_with fail
  refine (lat_any B 0 _ h1 (by omega)).mono ?_; rintro e w2 ⟨l, rfl, l0, l1, h2, hx2⟩
  have hH2 := blk_ext hH1 hx2 (by omega)
  have hB2 := hB1.trans (hx2.below (N := w.heap.size) (by omega) (by omega))
  go_wp2_with fail
  refine (pick_any B _ 3 _ h2 (by omega) (by omega) (by omega)).mono ?_; rintro e w3 ⟨q, rfl, q0, q1, h3, hx3⟩
  have hz2 := blk_lt hH2
  have hH3 := blk_ext hH2 hx3 (by omega)
  have hB3 := hB2.trans (hx3.below (N := w.heap.size) (by omega) (by omega))
  by_cases g : q = 0
  · subst g
    go_wp2_with fail
    refine (pick_any B _ 256 _ h3 (by omega) (by omega) (by omega)).mono ?_; rintro e w4 ⟨i, rfl, i0, i1, h4, hx4⟩
    have hz3 := blk_lt hH3
    have hH4 := blk_ext hH3 hx4 (by omega)
    have hB4 := hB3.trans (hx4.below (N := w.heap.size) (by omega) (by omega))
    go_wp2_with fail
    refine (pick_any B _ 256 _ h4 (by omega) (by omega) (by omega)).mono ?_; rintro e w5 ⟨j, rfl, j0, j1, h5, hx5⟩
    have hz4 := blk_lt hH4
    have hH5 := blk_ext hH4 hx5 (by omega)
    have hB5 := hB4.trans (hx5.below (N := w.heap.size) (by omega) (by omega))
    obtain ⟨c0, c1, f0, f1, hz⟩ := blk2 hH5
    have hH9 := blk2_set (a := .int .i64 (i * 7 - 896)) (b := .int .i64 (j * 7 - 896)) hH5
    obtain ⟨q0, q1, _⟩ := blk2 hH9
    go_wp2
    exact bodyPost_ret (v := .tuple #[.int .i64 l, .agg #[.int .i64 (i * 7 - 896), .int .i64 (j * 7 - 896)]]) (by simp [results, Try.results30, go_sem, q0, q1]) rfl ⟨_, _, _, rfl, by omega, by omega, by omega, by omega, by omega, by omega, store2_bel hB5 (Nat.le_refl _) _ _⟩
  · have d1 : (q == 0) = false := by rw [beq_eq_false_iff_ne]; exact g
    go_wp2_with fail
    refine (way_any B _ 20 _ h3 (by omega) (by omega) (by omega)).mono ?_; rintro e w4 ⟨x, y, rfl, x0, x1, y0, y1, h4, hx4⟩
    have hH4 := blk_ext hH3 hx4 (by omega)
    have hz3 := blk_lt hH3
    have hB4 := hB3.trans (hx4.below (N := w.heap.size) (by omega) (by omega))
    obtain ⟨c0, c1, f0, f1, hz⟩ := blk2 hH4
    have hH9 := blk2_set (a := .int .i64 (x)) (b := .int .i64 (y)) hH4
    obtain ⟨q0, q1, _⟩ := blk2 hH9
    go_wp2
    exact bodyPost_ret (v := .tuple #[.int .i64 l, .agg #[.int .i64 (x), .int .i64 (y)]]) (by simp [results, Try.results30, go_sem, q0, q1]) rfl ⟨_, _, _, rfl, by omega, by omega, by omega, by omega, by omega, by omega, store2_bel hB4 (Nat.le_refl _) _ _⟩
set_option maxHeartbeats 2000000 in
theorem drHourOn_any (a : Option Addr) (len cap : Nat) (w : World) (h : CodeOk w a len cap) : Calls Try.prog 27 #[.slice a len cap] w (DrewLW 1000000 w) := by
  go_enter Try.func27, Try.ntmps27
  go_wp2_with fail
  refine (open_any _ _ _ _ (code_below h (bel1 _ _))).mono ?_; rintro e w1 ⟨B, rfl, hB, h1, hb1⟩
  obtain ⟨hH1, hB1⟩ := ownb hb1
  have hz1 := blk_lt hH1
  have hB' : w.heap.size < B := by simp at hB; omega
  clear hB
  go_wp2_with fail
  refine (lat_any B 0 _ h1 (by omega)).mono ?_; rintro e w2 ⟨l, rfl, l0, l1, h2, hx2⟩
  have hH2 := blk_ext hH1 hx2 (by omega)
  have hB2 := hB1.trans (hx2.below (N := w.heap.size) (by omega) (by omega))
  go_wp2_with fail
  refine (hr_any B _ _ h2 (by omega)).mono ?_; rintro e w3 ⟨t, rfl, t0, t1, h3, hx3⟩
  have hz2 := blk_lt hH2
  have hH3 := blk_ext hH2 hx3 (by omega)
  have hB3 := hB2.trans (hx3.below (N := w.heap.size) (by omega) (by omega))
  have hz3 := blk_lt hH3
  cases hl : laB l
  · have HN := Lib.hid (show laB l = false ∨ (laB l = true ∧ hrB t = false) from .inl hl)
    clear hl
    have hBlt := h3.lt
    go_wp2_with fail
    refine (sLn_f _ _ _ HN.out).mono ?_; rintro e w4 ⟨rfl, hw4⟩
    have h4 := (h3.next hw4).alloc (.cells #[.int .i64 0, .int .i64 0] 30)
    have hH4 := blk_old (blk_next hH3 hw4) (.cells #[.int .i64 0, .int .i64 0] 30)
    have hB4 := (bel_next hB3 hw4).alloc (bel_next hB3 hw4).size (.cells #[.int .i64 0, .int .i64 0] 30)
    have hL4 := blk_new w4 (.cells #[.int .i64 0, .int .i64 0] 30)
    have hzL := hw4.size
    have hz4 := blk_lt hH4
    go_wp2_with fail
    refine (way_any B _ 20 _ h4 (by omega) (by omega) (by omega)).mono ?_; rintro e w5 ⟨x, y, rfl, x0, x1, y0, y1, h5, hx5⟩
    have hH5 := blk_ext hH4 hx5 (by omega)
    have hz4 := blk_lt hH4
    have hB5 := hB4.trans (hx5.below (N := w.heap.size) (by omega) (by omega))
    obtain ⟨c0, c1, f0, f1, hz⟩ := blk2 hH5
    have hH9 := blk2_set (a := .int .i64 (x)) (b := .int .i64 (y)) hH5
    obtain ⟨q0, q1, _⟩ := blk2 hH9
    go_wp2
    exact bodyPost_ret (v := .tuple #[.int .i64 l, .agg #[.int .i64 (x), .int .i64 (y)]]) (by simp [results, Try.results27, go_sem, q0, q1]) rfl ⟨_, _, _, rfl, by omega, by omega, by omega, by omega, by omega, by omega, store2_bel hB5 (Nat.le_refl _) _ _⟩
  · cases hh : hrB t
    · have HN := Lib.hid (show laB l = false ∨ (laB l = true ∧ hrB t = false) from .inr ⟨hl, hh⟩)
      clear hl hh
      have hBlt := h3.lt
      go_wp2_with fail
      refine (sLn_f _ _ _ HN.out).mono ?_; rintro e w4 ⟨rfl, hw4⟩
      have h4 := (h3.next hw4).alloc (.cells #[.int .i64 0, .int .i64 0] 30)
      have hH4 := blk_old (blk_next hH3 hw4) (.cells #[.int .i64 0, .int .i64 0] 30)
      have hB4 := (bel_next hB3 hw4).alloc (bel_next hB3 hw4).size (.cells #[.int .i64 0, .int .i64 0] 30)
      have hL4 := blk_new w4 (.cells #[.int .i64 0, .int .i64 0] 30)
      have hzL := hw4.size
      have hz4 := blk_lt hH4
      go_wp2_with fail
      refine (way_any B _ 20 _ h4 (by omega) (by omega) (by omega)).mono ?_; rintro e w5 ⟨x, y, rfl, x0, x1, y0, y1, h5, hx5⟩
      have hH5 := blk_ext hH4 hx5 (by omega)
      have hz4 := blk_lt hH4
      have hB5 := hB4.trans (hx5.below (N := w.heap.size) (by omega) (by omega))
      obtain ⟨c0, c1, f0, f1, hz⟩ := blk2 hH5
      have hH9 := blk2_set (a := .int .i64 (x)) (b := .int .i64 (y)) hH5
      obtain ⟨q0, q1, _⟩ := blk2 hH9
      go_wp2
      exact bodyPost_ret (v := .tuple #[.int .i64 l, .agg #[.int .i64 (x), .int .i64 (y)]]) (by simp [results, Try.results27, go_sem, q0, q1]) rfl ⟨_, _, _, rfl, by omega, by omega, by omega, by omega, by omega, by omega, store2_bel hB5 (Nat.le_refl _) _ _⟩
    · have HL := Lib.hid hl
      have HH := Lib.hid hh
      clear hl hh
      have hBlt := h3.lt
      go_wp2_with fail
      refine (sLn_t _ _ _ HL.out HH.out).mono ?_; rintro e w4 ⟨rfl, hw4⟩
      have h4 := (h3.next hw4).alloc (.cells #[.int .i64 (lnE l t), .int .i64 (lnN t)] 30)
      have hH4 := blk_old (blk_next hH3 hw4) (.cells #[.int .i64 (lnE l t), .int .i64 (lnN t)] 30)
      have hB4 := (bel_next hB3 hw4).alloc (bel_next hB3 hw4).size (.cells #[.int .i64 (lnE l t), .int .i64 (lnN t)] 30)
      have hL4 := blk_new w4 (.cells #[.int .i64 (lnE l t), .int .i64 (lnN t)] 30)
      have hzL := hw4.size
      go_wp2_with fail
      refine (pick_any B _ 4 _ h4 (by omega) (by omega) (by omega)).mono ?_; rintro e w5 ⟨q, rfl, q0, q1, h5, hx5⟩
      have hz4 := blk_lt hH4
      have hH5 := blk_ext hH4 hx5 (by omega)
      have hB5 := hB4.trans (hx5.below (N := w.heap.size) (by omega) (by omega))
      by_cases g : 0 < q
      · have hL5 := blk_ext hL4 hx5 (by omega)
        obtain ⟨k0, k1, _, _, _⟩ := blk2 hL5
        obtain ⟨c0, c1, f0, f1, hz⟩ := blk2 hH5
        obtain ⟨b0, b1, b2, b3⟩ := ln_bd l t
        have hH9 := blk2_set (a := .int .i64 (lnE l t)) (b := .int .i64 (lnN t)) hH5
        obtain ⟨q0_, q1_, _⟩ := blk2 hH9
        go_wp2_with fail
        go_region
        go_wp2_with fail
        exact bodyPost_ret (v := .tuple #[.int .i64 l, .agg #[.int .i64 (lnE l t), .int .i64 (lnN t)]]) (by simp [results, Try.results27, go_sem, q0_, q1_]) rfl ⟨_, _, _, rfl, by omega, by omega, b0, b1, b2, b3, by first | exact (store2_bel hB5 (Nat.le_refl _) _ _).drew | exact store2_bel hB5.drew (Nat.le_refl _) _ _ | exact store2_bel hB5 (Nat.le_refl _) _ _⟩
      · have g2 : ¬ 0 < q := g
        go_wp2_with fail
        refine (way_any B _ 20 _ h5 (by omega) (by omega) (by omega)).mono ?_; rintro e w6 ⟨x, y, rfl, x0, x1, y0, y1, h6, hx6⟩
        have hH6 := blk_ext hH5 hx6 (by omega)
        have hz5 := blk_lt hH5
        have hB6 := hB5.trans (hx6.below (N := w.heap.size) (by omega) (by omega))
        obtain ⟨c0, c1, f0, f1, hz⟩ := blk2 hH6
        have hH9 := blk2_set (a := .int .i64 (x)) (b := .int .i64 (y)) hH6
        obtain ⟨q0, q1, _⟩ := blk2 hH9
        go_wp2
        exact bodyPost_ret (v := .tuple #[.int .i64 l, .agg #[.int .i64 (x), .int .i64 (y)]]) (by simp [results, Try.results27, go_sem, q0, q1]) rfl ⟨_, _, _, rfl, by omega, by omega, by omega, by omega, by omega, by omega, store2_bel hB6 (Nat.le_refl _) _ _⟩
theorem drDialTurn_any (a : Option Addr) (len cap : Nat) (w : World) (h : CodeOk w a len cap) : Calls Try.prog 36 #[.slice a len cap] w (DrewW w) := by
  go_enter Try.func36, Try.ntmps36
  go_wp2_with fail
  refine (open_any _ _ _ _ (code_below h (bel1 _ _))).mono ?_; rintro e w1 ⟨B, rfl, hB, h1, hb1⟩
  obtain ⟨hH1, hB1⟩ := ownb hb1
  have hz1 := blk_lt hH1
  have hB' : w.heap.size < B := by simp at hB; omega
  clear hB
  go_wp2_with fail
  refine (way_any B 0 6 _ h1 (by omega) (by omega) (by omega)).mono ?_; rintro e w2 ⟨x, y, rfl, x0, x1, y0, y1, _, hx⟩
  have hH2 := blk_ext hH1 hx (by omega)
  have hB2 := hB1.trans (hx.below (N := w.heap.size) (by omega) (by omega))
  obtain ⟨c0, c1, f0, f1, hz⟩ := blk2 hH2
  go_wp2
  exact bodyPost_ret (v := .agg #[.int .i64 x, .int .i64 y]) (by simp [results, Try.results36, go_sem, c0, c1]) rfl ⟨_, _, rfl, x0, x1, y0, y1, (hB2.setCell (p := ⟨_, _, _⟩) (by simp) _).setCell (p := ⟨_, _, _⟩) (by simp) _⟩
theorem blk_str_at {w : World} {b : Nat} {t : TypeId} (zs : List ByteArray) (h : w.heap[b]? = some (.cells (zs.map Value.string).toArray t (0, 0))) (hi : Nat) (hz : ∀ z ∈ zs, z.size ≤ hi) (i : Nat) (hi' : i < zs.length) : ∃ v : ByteArray, w.cell? ⟨b, i, none⟩ = some (.string v) ∧ v.size ≤ hi ∧ v ∈ zs := by
  refine ⟨zs[i], ?_, hz _ (List.getElem_mem hi'), List.getElem_mem hi'⟩
  simp [World.cell?, h, hi']
set_option maxHeartbeats 1000000 in
theorem drTextOk_any (a : Option Addr) (len cap : Nat) (w : World) (h : CodeOk w a len cap) : Calls Try.prog 38 #[.slice a len cap] w (DrewS w) := by
  go_enter Try.func38, Try.ntmps38
  go_wp2_with fail
  refine (open_any _ _ _ _ h).mono ?_; rintro e w1 ⟨B, rfl, hB, h1, hb1⟩
  go_wp2_with fail
  refine (pick_any B 0 11 _ (h1.alloc _) (by omega) (by omega) (by omega)).mono ?_; rintro e w2 ⟨j, rfl, j0, j1, h2, hx2⟩
  have hlt := h1.lt
  have hH := blk_ext (blk_new _ _) hx2 (by omega)
  obtain ⟨v, hv, v0, _⟩ := blk_str_at [⟨#[]⟩, ⟨#[120, 105, 105]⟩, ⟨#[49, 48, 58, 51, 48]⟩, ⟨#[110, 111, 111, 110, 115]⟩, ⟨#[108, 111, 110, 103, 101, 114]⟩, ⟨#[65]⟩, ⟨#[97, 32, 98]⟩, ⟨#[57]⟩, ⟨#[59]⟩, ⟨#[122, 47]⟩, ⟨#[48]⟩] hH 100 (by decide) j.toNat (by simp; omega)
  clear hH
  go_wp2_with fail
  go_ret
  exact ⟨v, rfl, v0, hb1.trans (((Ext.refl _ _).alloc _ |>.trans hx2).below hB hb1.size)⟩
end Go.Proofs.Ytgbelpkhfaajoab
