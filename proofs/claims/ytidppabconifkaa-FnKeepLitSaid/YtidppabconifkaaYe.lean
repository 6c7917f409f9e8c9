/- What the laws of cities draw. -/
import Derived.Test.YtidppabconifkaaYd
namespace Go.Proofs.Ytidppabconifkaa
open Go Go.ChangeShapes Go.WideShapes Go.ChangeAt Go.RowKit
set_option linter.unusedSimpArgs false
set_option linter.unusedVariables false

theorem quo39c {n k : Int} (hk : 0 < k) (h0 : 0 ≤ n) (h1 : n ≤ k) : 0 ≤ n.tdiv k ∧ n.tdiv k ≤ 1 := by
  rw [Int.tdiv_eq_ediv_of_nonneg h0]
  refine ⟨Int.ediv_nonneg h0 (by omega), ?_⟩
  have := Int.ediv_le_ediv hk h1
  rw [Int.ediv_self (by omega)] at this; exact this
def NumIs (B : Nat) (u : Int) (w : World) (e : Ending) (w' : World) : Prop := ∃ x : Int, e = .returned (.int .i64 x) ∧ (-100 ≤ x ∧ x ≤ 200) ∧ RdU B u w' ∧ Ext B w w'
set_option maxHeartbeats 4000000 in
theorem dir_any (B : Nat) (u : Int) (w : World) (h : RdU B u w) (hu : u ≤ 700000) : Calls Try.prog 53 #[.pointer (some ⟨B, 0, none⟩)] w (NumIs B (u + 3) w) := by
  go_enter Try.func53, Try.ntmps53
  go_wp2_with fail
  have hX0 := Ext.refl B w
  refine (pick_any B _ 4 _ h (by omega) (by omega) (by omega)).mono ?_; rintro e w1 ⟨a, rfl, a0, a1, h1, hx1⟩
  have hX1 := hX0.trans hx1
  go_wp2_with fail
  refine (pick_any B _ 40 _ h1 (by omega) (by omega) (by omega)).mono ?_; rintro e w2 ⟨c, rfl, c0, c1, h2, hx2⟩
  have hX2 := hX1.trans hx2
  obtain ⟨qc0, qc1⟩ := quo39c (k := 39) (by omega) c0 (by omega)
  obtain ⟨qc, hqc⟩ : ∃ q, Int.tdiv c 39 = q := ⟨_, rfl⟩
  rw [hqc] at qc0 qc1
  have hqqc : c / 39 = qc := by rw [← hqc, Int.tdiv_eq_ediv_of_nonneg c0]
  go_wp2_with fail
  refine (pick_any B _ 40 _ h2 (by omega) (by omega) (by omega)).mono ?_; rintro e w3 ⟨e9, rfl, e90, e91, h3, hx3⟩
  have hX3 := hX2.trans hx3
  obtain ⟨qe90, qe91⟩ := quo39c (k := 39) (by omega) e90 (by omega)
  obtain ⟨qe9, hqe9⟩ : ∃ q, Int.tdiv e9 39 = q := ⟨_, rfl⟩
  rw [hqe9] at qe90 qe91
  have hqqe9 : e9 / 39 = qe9 := by rw [← hqe9, Int.tdiv_eq_ediv_of_nonneg e90]
  go_wp2
  go_ret
  exact ⟨a + qc * 4 - qe9 * 5, rfl, ⟨by omega, by omega⟩, h3.mono (by omega), hX3⟩
set_option maxHeartbeats 4000000 in
theorem fall_any (B : Nat) (u : Int) (w : World) (h : RdU B u w) (hu : u ≤ 700000) : Calls Try.prog 58 #[.pointer (some ⟨B, 0, none⟩)] w (NumIs B (u + 3) w) := by
  go_enter Try.func58, Try.ntmps58
  go_wp2_with fail
  have hX0 := Ext.refl B w
  refine (pick_any B _ 6 _ h (by omega) (by omega) (by omega)).mono ?_; rintro e w1 ⟨a, rfl, a0, a1, h1, hx1⟩
  have hX1 := hX0.trans hx1
  go_wp2_with fail
  refine (pick_any B _ 40 _ h1 (by omega) (by omega) (by omega)).mono ?_; rintro e w2 ⟨c, rfl, c0, c1, h2, hx2⟩
  have hX2 := hX1.trans hx2
  obtain ⟨qc0, qc1⟩ := quo39c (k := 39) (by omega) c0 (by omega)
  obtain ⟨qc, hqc⟩ : ∃ q, Int.tdiv c 39 = q := ⟨_, rfl⟩
  rw [hqc] at qc0 qc1
  have hqqc : c / 39 = qc := by rw [← hqc, Int.tdiv_eq_ediv_of_nonneg c0]
  go_wp2_with fail
  refine (pick_any B _ 40 _ h2 (by omega) (by omega) (by omega)).mono ?_; rintro e w3 ⟨e9, rfl, e90, e91, h3, hx3⟩
  have hX3 := hX2.trans hx3
  obtain ⟨qe90, qe91⟩ := quo39c (k := 39) (by omega) e90 (by omega)
  obtain ⟨qe9, hqe9⟩ : ∃ q, Int.tdiv e9 39 = q := ⟨_, rfl⟩
  rw [hqe9] at qe90 qe91
  have hqqe9 : e9 / 39 = qe9 := by rw [← hqe9, Int.tdiv_eq_ediv_of_nonneg e90]
  go_wp2
  go_ret
  exact ⟨a + qc * 6 - qe9 * 7, rfl, ⟨by omega, by omega⟩, h3.mono (by omega), hX3⟩
set_option maxHeartbeats 4000000 in
theorem cell_any1 (B : Nat) (u : Int) (d : Int) (A : Option Addr) (m cp : Nat) (hm : m ≤ 40) (hm1 : (m : Int) < 1) (w : World) (h : RdU B u w) (hu : u ≤ 700000) : Calls Try.prog 52 #[.pointer (some ⟨B, 0, none⟩), .agg #[.int .i64 d, .slice A m cp]] w (NumIs B (u + 3) w) := by
  go_enter Try.func52, Try.ntmps52
  go_wp2_with fail
  have hX0 := (Ext.refl B w).alloc (.cells #[.int .i64 d, .slice A m cp] 25)
  refine (pick_any B _ 1 _ (h.alloc _) (by omega) (by omega) (by omega)).mono ?_; rintro e w1 ⟨a, rfl, a0, a1, h1, hx1⟩
  have hX1 := hX0.trans hx1
  go_wp2_with fail
  refine (pick_any B _ 40 _ h1 (by omega) (by omega) (by omega)).mono ?_; rintro e w2 ⟨c, rfl, c0, c1, h2, hx2⟩
  have hX2 := hX1.trans hx2
  obtain ⟨qc0, qc1⟩ := quo39c (k := 39) (by omega) c0 (by omega)
  obtain ⟨qc, hqc⟩ : ∃ q, Int.tdiv c 39 = q := ⟨_, rfl⟩
  rw [hqc] at qc0 qc1
  have hqqc : c / 39 = qc := by rw [← hqc, Int.tdiv_eq_ediv_of_nonneg c0]
  go_wp2_with fail
  refine (pick_any B _ 40 _ h2 (by omega) (by omega) (by omega)).mono ?_; rintro e w3 ⟨e9, rfl, e90, e91, h3, hx3⟩
  have hX3 := hX2.trans hx3
  obtain ⟨qe90, qe91⟩ := quo39c (k := 39) (by omega) e90 (by omega)
  obtain ⟨qe9, hqe9⟩ : ∃ q, Int.tdiv e9 39 = q := ⟨_, rfl⟩
  rw [hqe9] at qe90 qe91
  have hqqe9 : e9 / 39 = qe9 := by rw [← hqe9, Int.tdiv_eq_ediv_of_nonneg e90]
  go_wp2
  go_ret
  exact ⟨a + qc * 40 - qe9 * 50, rfl, ⟨by omega, by omega⟩, h3.mono (by omega), hX3⟩
set_option maxHeartbeats 4000000 in
theorem cell_any2 (B : Nat) (u : Int) (d : Int) (A : Option Addr) (m cp : Nat) (hm : m ≤ 40) (hm1 : ¬ (m : Int) < 1) (w : World) (h : RdU B u w) (hu : u ≤ 700000) : Calls Try.prog 52 #[.pointer (some ⟨B, 0, none⟩), .agg #[.int .i64 d, .slice A m cp]] w (NumIs B (u + 3) w) := by
  go_enter Try.func52, Try.ntmps52
  go_wp2_with fail
  have hX0 := (Ext.refl B w).alloc (.cells #[.int .i64 d, .slice A m cp] 25)
  refine (pick_any B _ (m : Int) _ (h.alloc _) (by omega) (by omega) (by omega)).mono ?_; rintro e w1 ⟨a, rfl, a0, a1, h1, hx1⟩
  have hX1 := hX0.trans hx1
  go_wp2_with fail
  refine (pick_any B _ 40 _ h1 (by omega) (by omega) (by omega)).mono ?_; rintro e w2 ⟨c, rfl, c0, c1, h2, hx2⟩
  have hX2 := hX1.trans hx2
  obtain ⟨qc0, qc1⟩ := quo39c (k := 39) (by omega) c0 (by omega)
  obtain ⟨qc, hqc⟩ : ∃ q, Int.tdiv c 39 = q := ⟨_, rfl⟩
  rw [hqc] at qc0 qc1
  have hqqc : c / 39 = qc := by rw [← hqc, Int.tdiv_eq_ediv_of_nonneg c0]
  go_wp2_with fail
  refine (pick_any B _ 40 _ h2 (by omega) (by omega) (by omega)).mono ?_; rintro e w3 ⟨e9, rfl, e90, e91, h3, hx3⟩
  have hX3 := hX2.trans hx3
  obtain ⟨qe90, qe91⟩ := quo39c (k := 39) (by omega) e90 (by omega)
  obtain ⟨qe9, hqe9⟩ : ∃ q, Int.tdiv e9 39 = q := ⟨_, rfl⟩
  rw [hqe9] at qe90 qe91
  have hqqe9 : e9 / 39 = qe9 := by rw [← hqe9, Int.tdiv_eq_ediv_of_nonneg e90]
  go_wp2
  go_ret
  exact ⟨a + qc * 40 - qe9 * 50, rfl, ⟨by omega, by omega⟩, h3.mono (by omega), hX3⟩
theorem cell_any (B : Nat) (u : Int) (d : Int) (A : Option Addr) (m cp : Nat) (hm : m ≤ 40) (w : World) (h : RdU B u w) (hu : u ≤ 700000) : Calls Try.prog 52 #[.pointer (some ⟨B, 0, none⟩), .agg #[.int .i64 d, .slice A m cp]] w (NumIs B (u + 3) w) := by
  by_cases hm1 : (m : Int) < 1
  · exact cell_any1 B u d A m cp hm hm1 w h hu
  · exact cell_any2 B u d A m cp hm hm1 w h hu
def DrewCity (w : World) (e : Ending) (w' : World) : Prop := ∃ (d : Int) (xs : List Int) (A : Option Addr) (cap : Nat), e = .returned (.agg #[.int .i64 d, .slice A xs.length cap]) ∧ (0 ≤ d ∧ d ≤ 6) ∧ xs.length ≤ 37 ∧ SOwn encNum w' w.heap.size 3 A cap xs ∧ Below w.heap.size w w'
def DrewCity2 (w : World) (e : Ending) (w' : World) : Prop := ∃ (d : Int) (xs : List Int) (A : Option Addr) (cap : Nat) (x y : Int), e = .returned (.tuple #[.agg #[.int .i64 d, .slice A xs.length cap], .int .i64 x, .int .i64 y]) ∧ (0 ≤ d ∧ d ≤ 6) ∧ xs.length ≤ 37 ∧ SOwn encNum w' w.heap.size 3 A cap xs ∧ (-100 ≤ x ∧ x ≤ 200) ∧ (-100 ≤ y ∧ y ≤ 200) ∧ Below w.heap.size w w'
def DrewCity3 (w : World) (e : Ending) (w' : World) : Prop := ∃ (d : Int) (xs : List Int) (A : Option Addr) (cap : Nat) (x y z : Int), e = .returned (.tuple #[.agg #[.int .i64 d, .slice A xs.length cap], .int .i64 x, .int .i64 y, .int .i64 z]) ∧ (0 ≤ d ∧ d ≤ 6) ∧ xs.length ≤ 37 ∧ SOwn encNum w' w.heap.size 3 A cap xs ∧ (-100 ≤ x ∧ x ≤ 200) ∧ (-100 ≤ y ∧ y ≤ 200) ∧ (-100 ≤ z ∧ z ≤ 200) ∧ Below w.heap.size w w'
def SunnyIs (B : Nat) (u : Int) (w : World) (e : Ending) (w' : World) : Prop := ∃ (d : Int) (xs : List Int) (A : Option Addr) (cap : Nat) (x y : Int), e = .returned (.tuple #[.agg #[.int .i64 d, .slice A xs.length cap], .int .i64 x, .int .i64 y]) ∧ (0 ≤ d ∧ d ≤ 6) ∧ xs.length ≤ 37 ∧ SOwn encNum w' w.heap.size 3 A cap xs ∧ (-100 ≤ x ∧ x ≤ 200) ∧ (-100 ≤ y ∧ y ≤ 200) ∧ RdU B u w' ∧ Ext B w w'
set_option maxRecDepth 100000 in
set_option maxHeartbeats 4000000 in
theorem drCityValid_any (a : Option Addr) (len cap : Nat) (w : World) (h : CodeOk w a len cap) : Calls Try.prog 12 #[.slice a len cap] w (DrewCity w) := by
  go_enter Try.func12, Try.ntmps12
  go_wp2_with fail
  refine (open_any _ _ _ _ (code_below h (bel1 w (.cells #[.int .i64 0, .slice none 0 0] 25)))).mono ?_; rintro e w1 ⟨B, rfl, hB, h1, hb1⟩
  obtain ⟨hZ1, hB1⟩ := ownb hb1
  simp at hB
  have hz1 := hB1.size
  have hzR := blk_lt hZ1
  go_wp2_with fail
  refine (city_any B 0 2 _ h1 (by omega) (by omega) (by omega)).mono ?_; rintro e w2 ⟨d, xs, A, cp, rfl, hd, hx6, hO2, h2, hx2⟩
  have hZ2 := blk_ext hZ1 hx2 (by omega)
  obtain ⟨r0, r1, s0_, s1_, zR⟩ := blk2 hZ2
  have hB2 := hB1.trans (hx2.below (N := w.heap.size) (by omega) hB1.size)
  have hO3 := SOwn.far2Y hO2 hzR (.int .i64 d) (.slice A xs.length cp)
  go_wp2_with fail
  exact bodyPost_ret (v := .agg #[.int .i64 d, .slice A xs.length cp]) (by simp [results, Try.results12, go_sem, r0, r1]) rfl ⟨d, xs, A, cp, rfl, hd, hx6, hO3.mono hz1, store2_bel hB2 (Nat.le_refl _) _ _⟩
set_option maxRecDepth 100000 in
set_option maxHeartbeats 4000000 in
theorem drCityTurn_any (a : Option Addr) (len cap : Nat) (w : World) (h : CodeOk w a len cap) : Calls Try.prog 37 #[.slice a len cap] w (DrewCity w) := by
  go_enter Try.func37, Try.ntmps37
  go_wp2_with fail
  refine (open_any _ _ _ _ (code_below h (bel1 w (.cells #[.int .i64 0, .slice none 0 0] 25)))).mono ?_; rintro e w1 ⟨B, rfl, hB, h1, hb1⟩
  obtain ⟨hZ1, hB1⟩ := ownb hb1
  simp at hB
  have hz1 := hB1.size
  have hzR := blk_lt hZ1
  go_wp2_with fail
  refine (city_any B 0 6 _ h1 (by omega) (by omega) (by omega)).mono ?_; rintro e w2 ⟨d, xs, A, cp, rfl, hd, hx6, hO2, h2, hx2⟩
  have hZ2 := blk_ext hZ1 hx2 (by omega)
  obtain ⟨r0, r1, s0_, s1_, zR⟩ := blk2 hZ2
  have hB2 := hB1.trans (hx2.below (N := w.heap.size) (by omega) hB1.size)
  have hO3 := SOwn.far2Y hO2 hzR (.int .i64 d) (.slice A xs.length cp)
  go_wp2_with fail
  exact bodyPost_ret (v := .agg #[.int .i64 d, .slice A xs.length cp]) (by simp [results, Try.results37, go_sem, r0, r1]) rfl ⟨d, xs, A, cp, rfl, hd, hx6, hO3.mono hz1, store2_bel hB2 (Nat.le_refl _) _ _⟩
set_option maxRecDepth 100000 in
set_option maxHeartbeats 4000000 in
theorem drCitySum_any (a : Option Addr) (len cap : Nat) (w : World) (h : CodeOk w a len cap) : Calls Try.prog 39 #[.slice a len cap] w (DrewCity w) := by
  go_enter Try.func39, Try.ntmps39
  go_wp2_with fail
  refine (open_any _ _ _ _ (code_below h (bel1 w (.cells #[.int .i64 0, .slice none 0 0] 25)))).mono ?_; rintro e w1 ⟨B, rfl, hB, h1, hb1⟩
  obtain ⟨hZ1, hB1⟩ := ownb hb1
  simp at hB
  have hz1 := hB1.size
  have hzR := blk_lt hZ1
  go_wp2_with fail
  refine (city_any B 0 6 _ h1 (by omega) (by omega) (by omega)).mono ?_; rintro e w2 ⟨d, xs, A, cp, rfl, hd, hx6, hO2, h2, hx2⟩
  have hZ2 := blk_ext hZ1 hx2 (by omega)
  obtain ⟨r0, r1, s0_, s1_, zR⟩ := blk2 hZ2
  have hB2 := hB1.trans (hx2.below (N := w.heap.size) (by omega) hB1.size)
  have hO3 := SOwn.far2Y hO2 hzR (.int .i64 d) (.slice A xs.length cp)
  go_wp2_with fail
  exact bodyPost_ret (v := .agg #[.int .i64 d, .slice A xs.length cp]) (by simp [results, Try.results39, go_sem, r0, r1]) rfl ⟨d, xs, A, cp, rfl, hd, hx6, hO3.mono hz1, store2_bel hB2 (Nat.le_refl _) _ _⟩
set_option maxRecDepth 100000 in
set_option maxHeartbeats 4000000 in
theorem sunny_any (B : Nat) (u : Int) (w : World) (h : RdU B u w) (hu : u ≤ 500000) : Calls Try.prog 63 #[.pointer (some ⟨B, 0, none⟩)] w (SunnyIs B (u + 150) w) := by
  have hBw := h.lt
  go_enter Try.func63, Try.ntmps63
  go_wp2_with fail
  refine (city_any B u 12 _ (h.alloc _) (by omega) (by omega) (by omega)).mono ?_; rintro e w2 ⟨d, xs, A, cp, rfl, hd, hx6, hO2, h2, hx2⟩
  obtain ⟨m, hm⟩ : ∃ m, xs.length = m := ⟨_, rfl⟩
  rw [hm] at hx6 ⊢
  have HM := Lib.hid hm
  clear hm
  have hZ2 := blk_ext (blk_new w (.cells #[.int .i64 0, .slice none 0 0] 25)) hx2 (by omega)
  have hX2 := ((Ext.refl B w).alloc (.cells #[.int .i64 0, .slice none 0 0] 25)).trans hx2
  simp only [World.size_alloc] at hO2
  have hB2 := h2.lt
  go_wp2_with fail
  refine (dir_any B _ _ h2 (by omega)).mono ?_; rintro e w3 ⟨x, rfl, hxb, h3, hx3⟩
  have hO3 := hO2.extK hx3 (by omega)
  have hZ3 := blk_ext hZ2 hx3 (by omega)
  have hX3 := hX2.trans hx3
  go_wp2_with fail
  refine (fall_any B _ _ h3 (by omega)).mono ?_; rintro e w4 ⟨y, rfl, hyb, h4, hx4⟩
  have hO4 := hO3.extK hx4 (by omega)
  have hZ4 := blk_ext hZ3 hx4 (by omega)
  have hX4 := hX3.trans hx4
  obtain ⟨r0, r1, s0_, s1_, zR⟩ := blk2 hZ4
  have hO5 := SOwn.far2Y hO4 (Nat.lt_succ_self _) (.int .i64 d) (.slice A m cp)
  go_wp2_with fail
  exact bodyPost_ret (v := .tuple #[.agg #[.int .i64 d, .slice A m cp], .int .i64 x, .int .i64 y]) (by simp [results, Try.results63, go_sem, r0, r1]) rfl ⟨d, xs, A, cp, x, y, by rw [HM.out], hd, by rw [HM.out]; exact hx6, hO5.mono (Nat.le_succ _), hxb, hyb, (((h4.mono (u' := u + 150) (by omega)).setOther (by omega) _).setOther (by omega) _), ((hX4.setNew (Nat.le_refl _) _ _).setNew (Nat.le_refl _) _ _)⟩
set_option maxRecDepth 100000 in
set_option maxHeartbeats 4000000 in
theorem drShadeOf_any (a : Option Addr) (len cap : Nat) (w : World) (h : CodeOk w a len cap) : Calls Try.prog 24 #[.slice a len cap] w (DrewCity2 w) := by
  go_enter Try.func24, Try.ntmps24
  go_wp2_with fail
  refine (open_any _ _ _ _ (code_below h (bel1 w (.cells #[.int .i64 0, .slice none 0 0] 25)))).mono ?_; rintro e w1 ⟨B, rfl, hB, h1, hb1⟩
  obtain ⟨hZ1, hB1⟩ := ownb hb1
  simp at hB
  have hz1 := hB1.size
  have hzR := blk_lt hZ1
  go_wp2_with fail
  refine (sunny_any B 0 _ h1 (by omega)).mono ?_; rintro e w2 ⟨d, xs, A, cp, x, y, rfl, hd, hx6, hO2, hxb, hyb, h2, hx2⟩
  obtain ⟨m, hm⟩ : ∃ m, xs.length = m := ⟨_, rfl⟩
  rw [hm] at hx6 ⊢
  have HM := Lib.hid hm
  clear hm
  have hZ2 := blk_ext hZ1 hx2 (by omega)
  obtain ⟨r0, r1, s0_, s1_, zR⟩ := blk2 hZ2
  have hB2 := hB1.trans (hx2.below (N := w.heap.size) (by omega) hB1.size)
  have hO3 := SOwn.far2Y hO2 hzR (.int .i64 d) (.slice A m cp)
  go_wp2_with fail
  exact bodyPost_ret (v := .tuple #[.agg #[.int .i64 d, .slice A m cp], .int .i64 x, .int .i64 y]) (by simp [results, Try.results24, go_sem, r0, r1]) rfl ⟨d, xs, A, cp, x, y, by rw [HM.out], hd, by rw [HM.out]; exact hx6, hO3.mono hz1, hxb, hyb, store2_bel hB2 (Nat.le_refl _) _ _⟩
set_option maxRecDepth 100000 in
set_option maxHeartbeats 4000000 in
theorem drLitCells_any (a : Option Addr) (len cap : Nat) (w : World) (h : CodeOk w a len cap) : Calls Try.prog 27 #[.slice a len cap] w (DrewCity2 w) := by
  go_enter Try.func27, Try.ntmps27
  go_wp2_with fail
  refine (open_any _ _ _ _ (code_below h (bel1 w (.cells #[.int .i64 0, .slice none 0 0] 25)))).mono ?_; rintro e w1 ⟨B, rfl, hB, h1, hb1⟩
  obtain ⟨hZ1, hB1⟩ := ownb hb1
  simp at hB
  have hz1 := hB1.size
  have hzR := blk_lt hZ1
  go_wp2_with fail
  refine (sunny_any B 0 _ h1 (by omega)).mono ?_; rintro e w2 ⟨d, xs, A, cp, x, y, rfl, hd, hx6, hO2, hxb, hyb, h2, hx2⟩
  obtain ⟨m, hm⟩ : ∃ m, xs.length = m := ⟨_, rfl⟩
  rw [hm] at hx6 ⊢
  have HM := Lib.hid hm
  clear hm
  have hZ2 := blk_ext hZ1 hx2 (by omega)
  obtain ⟨r0, r1, s0_, s1_, zR⟩ := blk2 hZ2
  have hB2 := hB1.trans (hx2.below (N := w.heap.size) (by omega) hB1.size)
  have hO3 := SOwn.far2Y hO2 hzR (.int .i64 d) (.slice A m cp)
  go_wp2_with fail
  exact bodyPost_ret (v := .tuple #[.agg #[.int .i64 d, .slice A m cp], .int .i64 x, .int .i64 y]) (by simp [results, Try.results27, go_sem, r0, r1]) rfl ⟨d, xs, A, cp, x, y, by rw [HM.out], hd, by rw [HM.out]; exact hx6, hO3.mono hz1, hxb, hyb, store2_bel hB2 (Nat.le_refl _) _ _⟩
set_option maxRecDepth 100000 in
set_option maxHeartbeats 4000000 in
theorem drNextCell_any (a : Option Addr) (len cap : Nat) (w : World) (h : CodeOk w a len cap) : Calls Try.prog 16 #[.slice a len cap] w (DrewCity2 w) := by
  go_enter Try.func16, Try.ntmps16
  go_wp2_with fail
  refine (open_any _ _ _ _ (code_below h (bel1 w (.cells #[.int .i64 0, .slice none 0 0] 25)))).mono ?_; rintro e w1 ⟨B, rfl, hB, h1, hb1⟩
  obtain ⟨hZ1, hB1⟩ := ownb hb1
  simp at hB
  have hz1 := hB1.size
  have hzR := blk_lt hZ1
  go_wp2_with fail
  refine (city_any B 0 12 _ h1 (by omega) (by omega) (by omega)).mono ?_; rintro e w2 ⟨d, xs, A, cp, rfl, hd, hx6, hO2, h2, hx2⟩
  obtain ⟨m, hm⟩ : ∃ m, xs.length = m := ⟨_, rfl⟩
  rw [hm] at hx6 ⊢
  have HM := Lib.hid hm
  clear hm
  have hC2 := blk_new w2 (.cells #[.int .i64 d, .slice A m cp] 25)
  have hZ2 := blk_old (blk_ext hZ1 hx2 (by omega)) (.cells #[.int .i64 d, .slice A m cp] 25)
  have hO_0 := (hO2.alloc (.cells #[.int .i64 d, .slice A m cp] 25)).drew
  have hB2l := h2.lt
  have hR_0 := (h2.alloc (.cells #[.int .i64 d, .slice A m cp] 25)).drw
  have hX_0 := ((hx2.alloc (.cells #[.int .i64 d, .slice A m cp] 25))).drw
  have hZ_0 := blk_drw hZ2
  have hCB : w2.heap.size ≠ B := by omega
  have hz2 := hx2.size
  have hCR : w2.heap.size ≠ w.heap.size := by omega
  have hRB : w.heap.size ≠ B := by omega
  have hB1l := h1.lt
  go_wp2_with fail
  refine wp_region_held_drew (S := (fun w' => w'.heap[w2.heap.size]? = some (.cells #[.int .i64 d, .slice A m cp] 25))) (by kernel_rfl) (hC2) (fun hHeld => ?_)
  have hC_0 := id hHeld
  refine wpAnyH_take (i := 0) (oi := _) (v := ?_) rfl (by kernel_rfl) (by kernel_rfl) (by kernel_rfl) (fun _ _ _ h => h) (Or.inl ⟨by rfl, ?_⟩) (by assumption) ?_
  (rotate_left); (focus (intro wv hSw; (have qC := hSw); obtain ⟨u0_, u1_, _, _, _⟩ := blk2 qC; go_simp; (try with_reducible rfl)))
  try simp only [Act.put, List.getElem_toArray, List.getElem_cons_succ, List.getElem_cons_zero, List.setIfInBounds_toArray, List.set_cons_zero, List.set_cons_succ]
  refine wpAnyH_take (i := 1) (oi := _) (v := ?_) rfl (by kernel_rfl) (by kernel_rfl) (by kernel_rfl) (fun _ _ _ h => h) (Or.inl ⟨by rfl, ?_⟩) (by assumption) ?_
  (rotate_left); (focus (intro wv hSw; (have qC := hSw);  go_simp; (try with_reducible rfl)))
  try simp only [Act.put, List.getElem_toArray, List.getElem_cons_succ, List.getElem_cons_zero, List.setIfInBounds_toArray, List.set_cons_zero, List.set_cons_succ]
  refine wpAnyH_take (i := 2) (oi := _) (v := ?_) rfl (by kernel_rfl) (by kernel_rfl) (by kernel_rfl) (fun _ _ _ h => h) (Or.inl ⟨by rfl, ?_⟩) (by assumption) ?_
  (rotate_left); (focus (intro wv hSw; (have qC := hSw); obtain ⟨u0_, u1_, _, _, _⟩ := blk2 qC; go_simp; (try with_reducible rfl)))
  try simp only [Act.put, List.getElem_toArray, List.getElem_cons_succ, List.getElem_cons_zero, List.setIfInBounds_toArray, List.set_cons_zero, List.set_cons_succ]
  refine wpAnyH_take (i := 4) (oi := _) (v := ?_) rfl (by kernel_rfl) (by kernel_rfl) (by kernel_rfl) (fun _ _ _ h => h) (Or.inl ⟨by rfl, ?_⟩) (by assumption) ?_
  (rotate_left); (focus (intro wv hSw; (have qC := hSw);  go_simp; (try with_reducible rfl)))
  try simp only [Act.put, List.getElem_toArray, List.getElem_cons_succ, List.getElem_cons_zero, List.setIfInBounds_toArray, List.set_cons_zero, List.set_cons_succ]
  refine wpAnyH_ready (rs := [3]) (by kernel_rfl) (by simp) ?_
  refine AllReadyH.cons (o := _) rfl (fun K hK => ?_) AllReadyH.nil
  go_simp
  (go_at_call 52; refine (cell_any B _ d A m cp (by omega) _ hR_0 (by omega)).mono ?_; rintro e x0c ⟨x, rfl, hxb, hR_0c, hw_0c⟩)
  refine hK.out _ _ (blk_ext hC_0 hw_0c hCB) (fun hHeld => ?_)
  clear hK K
  try simp only [Act.put, List.getElem_toArray, List.getElem_cons_succ, List.getElem_cons_zero, List.setIfInBounds_toArray, List.set_cons_zero, List.set_cons_succ]
  have hC_0c := id hHeld
  have hX_0c := hX_0.trans hw_0c
  have hO_0c := hO_0.extK hw_0c hB1l
  have hZ_0c := blk_ext hZ_0 hw_0c hRB
  refine wpAnyH_ready (rs := [5]) (by kernel_rfl) (by simp) ?_
  refine AllReadyH.cons (o := _) rfl (fun K hK => ?_) AllReadyH.nil
  go_simp
  (go_at_call 53; refine (dir_any B _ _ hR_0c (by omega)).mono ?_; rintro e x0cc ⟨y, rfl, hyb, hR_0cc, hw_0cc⟩)
  refine hK.out _ _ (blk_ext hC_0c hw_0cc hCB) (fun hHeld => ?_)
  clear hK K
  try simp only [Act.put, List.getElem_toArray, List.getElem_cons_succ, List.getElem_cons_zero, List.setIfInBounds_toArray, List.set_cons_zero, List.set_cons_succ]
  have hC_0cc := id hHeld
  have hX_0cc := hX_0c.trans hw_0cc
  have hO_0cc := hO_0c.extK hw_0cc hB1l
  have hZ_0cc := blk_ext hZ_0c hw_0cc hRB
  obtain ⟨r0, r1, s0_, s1_, zR⟩ := blk2 hZ_0cc
  refine wpAnyH_ready (rs := [6]) (by kernel_rfl) (by simp) ?_
  refine AllReadyH.cons (o := _) rfl (fun K hK => ?_) AllReadyH.nil
  go_simp
  refine hK.out _ _ (blk_store2 hC_0cc hCR (.int .i64 d) (.slice A m cp)) (fun hHeld => ?_)
  clear hK K
  try simp only [Act.put, List.getElem_toArray, List.getElem_cons_succ, List.getElem_cons_zero, List.setIfInBounds_toArray, List.set_cons_zero, List.set_cons_succ]
  have hC_0ccw := id hHeld
  have hZ_0ccw := blk2_set (a := .int .i64 d) (b := .slice A m cp) hZ_0cc
  have hO_0ccw := SOwn.far2Y hO_0cc hzR (.int .i64 d) (.slice A m cp)
  have hB_0ccw := store2_bel (hB1.trans (hX_0cc.below (N := w.heap.size) (by omega) hB1.size)) (Nat.le_refl _) (.int .i64 d) (.slice A m cp)
  refine wpAnyH_take (i := 7) (oi := _) (v := ?_) rfl (by kernel_rfl) (by kernel_rfl) (by kernel_rfl) (fun _ _ _ h => h) (Or.inl ⟨by rfl, ?_⟩) (by assumption) ?_
  (rotate_left); (focus (intro wv hSw; (have qC := hSw);  go_simp; (try with_reducible rfl)))
  try simp only [Act.put, List.getElem_toArray, List.getElem_cons_succ, List.getElem_cons_zero, List.setIfInBounds_toArray, List.set_cons_zero, List.set_cons_succ]
  refine wpAnyH_take (i := 8) (oi := _) (v := ?_) rfl (by kernel_rfl) (by kernel_rfl) (by kernel_rfl) (fun _ _ _ h => h) (Or.inl ⟨by rfl, ?_⟩) (by assumption) ?_
  (rotate_left); (focus (intro wv hSw; (have qC := hSw);  go_simp; (try with_reducible rfl)))
  try simp only [Act.put, List.getElem_toArray, List.getElem_cons_succ, List.getElem_cons_zero, List.setIfInBounds_toArray, List.set_cons_zero, List.set_cons_succ]
  refine wpAnyH_done (by kernel_rfl) ?_ _
  obtain ⟨r0, r1, s0_, s1_, zR⟩ := blk2 hZ_0ccw
  go_wp2_with fail
  exact bodyPost_ret (v := .tuple #[.agg #[.int .i64 d, .slice A m cp], .int .i64 x, .int .i64 y]) (by simp [results, Try.results16, go_sem, r0, r1]) rfl ⟨d, xs, A, cp, x, y, by rw [HM.out], hd, by rw [HM.out]; exact hx6, hO_0ccw.mono hz1, hxb, hyb, hB_0ccw⟩
set_option maxRecDepth 100000 in
set_option maxHeartbeats 4000000 in
theorem drDark_any (a : Option Addr) (len cap : Nat) (w : World) (h : CodeOk w a len cap) : Calls Try.prog 19 #[.slice a len cap] w (DrewCity3 w) := by
  go_enter Try.func19, Try.ntmps19
  go_wp2_with fail
  refine (open_any _ _ _ _ (code_below h (bel1 w (.cells #[.int .i64 0, .slice none 0 0] 25)))).mono ?_; rintro e w1 ⟨B, rfl, hB, h1, hb1⟩
  obtain ⟨hZ1, hB1⟩ := ownb hb1
  simp at hB
  have hz1 := hB1.size
  have hzR := blk_lt hZ1
  go_wp2_with fail
  refine (city_any B 0 12 _ h1 (by omega) (by omega) (by omega)).mono ?_; rintro e w2 ⟨d, xs, A, cp, rfl, hd, hx6, hO2, h2, hx2⟩
  obtain ⟨m, hm⟩ : ∃ m, xs.length = m := ⟨_, rfl⟩
  rw [hm] at hx6 ⊢
  have HM := Lib.hid hm
  clear hm
  have hC2 := blk_new w2 (.cells #[.int .i64 d, .slice A m cp] 25)
  have hZ2 := blk_old (blk_ext hZ1 hx2 (by omega)) (.cells #[.int .i64 d, .slice A m cp] 25)
  have hO_0 := (hO2.alloc (.cells #[.int .i64 d, .slice A m cp] 25)).drew
  have hB2l := h2.lt
  have hR_0 := (h2.alloc (.cells #[.int .i64 d, .slice A m cp] 25)).drw
  have hX_0 := ((hx2.alloc (.cells #[.int .i64 d, .slice A m cp] 25))).drw
  have hZ_0 := blk_drw hZ2
  have hCB : w2.heap.size ≠ B := by omega
  have hz2 := hx2.size
  have hCR : w2.heap.size ≠ w.heap.size := by omega
  have hRB : w.heap.size ≠ B := by omega
  have hB1l := h1.lt
  go_wp2_with fail
  refine wp_region_held_drew (S := (fun w' => w'.heap[w2.heap.size]? = some (.cells #[.int .i64 d, .slice A m cp] 25))) (by kernel_rfl) (hC2) (fun hHeld => ?_)
  have hC_0 := id hHeld
  refine wpAnyH_take (i := 0) (oi := _) (v := ?_) rfl (by kernel_rfl) (by kernel_rfl) (by kernel_rfl) (fun _ _ _ h => h) (Or.inl ⟨by rfl, ?_⟩) (by assumption) ?_
  (rotate_left); (focus (intro wv hSw; (have qC := hSw); obtain ⟨u0_, u1_, _, _, _⟩ := blk2 qC; go_simp; (try with_reducible rfl)))
  try simp only [Act.put, List.getElem_toArray, List.getElem_cons_succ, List.getElem_cons_zero, List.setIfInBounds_toArray, List.set_cons_zero, List.set_cons_succ]
  refine wpAnyH_take (i := 1) (oi := _) (v := ?_) rfl (by kernel_rfl) (by kernel_rfl) (by kernel_rfl) (fun _ _ _ h => h) (Or.inl ⟨by rfl, ?_⟩) (by assumption) ?_
  (rotate_left); (focus (intro wv hSw; (have qC := hSw);  go_simp; (try with_reducible rfl)))
  try simp only [Act.put, List.getElem_toArray, List.getElem_cons_succ, List.getElem_cons_zero, List.setIfInBounds_toArray, List.set_cons_zero, List.set_cons_succ]
  refine wpAnyH_take (i := 2) (oi := _) (v := ?_) rfl (by kernel_rfl) (by kernel_rfl) (by kernel_rfl) (fun _ _ _ h => h) (Or.inl ⟨by rfl, ?_⟩) (by assumption) ?_
  (rotate_left); (focus (intro wv hSw; (have qC := hSw); obtain ⟨u0_, u1_, _, _, _⟩ := blk2 qC; go_simp; (try with_reducible rfl)))
  try simp only [Act.put, List.getElem_toArray, List.getElem_cons_succ, List.getElem_cons_zero, List.setIfInBounds_toArray, List.set_cons_zero, List.set_cons_succ]
  refine wpAnyH_take (i := 4) (oi := _) (v := ?_) rfl (by kernel_rfl) (by kernel_rfl) (by kernel_rfl) (fun _ _ _ h => h) (Or.inl ⟨by rfl, ?_⟩) (by assumption) ?_
  (rotate_left); (focus (intro wv hSw; (have qC := hSw);  go_simp; (try with_reducible rfl)))
  try simp only [Act.put, List.getElem_toArray, List.getElem_cons_succ, List.getElem_cons_zero, List.setIfInBounds_toArray, List.set_cons_zero, List.set_cons_succ]
  refine wpAnyH_take (i := 6) (oi := _) (v := ?_) rfl (by kernel_rfl) (by kernel_rfl) (by kernel_rfl) (fun _ _ _ h => h) (Or.inl ⟨by rfl, ?_⟩) (by assumption) ?_
  (rotate_left); (focus (intro wv hSw; (have qC := hSw);  go_simp; (try with_reducible rfl)))
  try simp only [Act.put, List.getElem_toArray, List.getElem_cons_succ, List.getElem_cons_zero, List.setIfInBounds_toArray, List.set_cons_zero, List.set_cons_succ]
  refine wpAnyH_ready (rs := [3]) (by kernel_rfl) (by simp) ?_
  refine AllReadyH.cons (o := _) rfl (fun K hK => ?_) AllReadyH.nil
  go_simp
  (go_at_call 52; refine (cell_any B _ d A m cp (by omega) _ hR_0 (by omega)).mono ?_; rintro e x0c ⟨x, rfl, hxb, hR_0c, hw_0c⟩)
  refine hK.out _ _ (blk_ext hC_0 hw_0c hCB) (fun hHeld => ?_)
  clear hK K
  try simp only [Act.put, List.getElem_toArray, List.getElem_cons_succ, List.getElem_cons_zero, List.setIfInBounds_toArray, List.set_cons_zero, List.set_cons_succ]
  have hC_0c := id hHeld
  have hX_0c := hX_0.trans hw_0c
  have hO_0c := hO_0.extK hw_0c hB1l
  have hZ_0c := blk_ext hZ_0 hw_0c hRB
  refine wpAnyH_ready (rs := [5]) (by kernel_rfl) (by simp) ?_
  refine AllReadyH.cons (o := _) rfl (fun K hK => ?_) AllReadyH.nil
  go_simp
  (go_at_call 53; refine (dir_any B _ _ hR_0c (by omega)).mono ?_; rintro e x0cc ⟨y, rfl, hyb, hR_0cc, hw_0cc⟩)
  refine hK.out _ _ (blk_ext hC_0c hw_0cc hCB) (fun hHeld => ?_)
  clear hK K
  try simp only [Act.put, List.getElem_toArray, List.getElem_cons_succ, List.getElem_cons_zero, List.setIfInBounds_toArray, List.set_cons_zero, List.set_cons_succ]
  have hC_0cc := id hHeld
  have hX_0cc := hX_0c.trans hw_0cc
  have hO_0cc := hO_0c.extK hw_0cc hB1l
  have hZ_0cc := blk_ext hZ_0c hw_0cc hRB
  refine wpAnyH_ready (rs := [7]) (by kernel_rfl) (by simp) ?_
  refine AllReadyH.cons (o := _) rfl (fun K hK => ?_) AllReadyH.nil
  go_simp
  (go_at_call 58; refine (fall_any B _ _ hR_0cc (by omega)).mono ?_; rintro e x0ccc ⟨z, rfl, hzb, hR_0ccc, hw_0ccc⟩)
  refine hK.out _ _ (blk_ext hC_0cc hw_0ccc hCB) (fun hHeld => ?_)
  clear hK K
  try simp only [Act.put, List.getElem_toArray, List.getElem_cons_succ, List.getElem_cons_zero, List.setIfInBounds_toArray, List.set_cons_zero, List.set_cons_succ]
  have hC_0ccc := id hHeld
  have hX_0ccc := hX_0cc.trans hw_0ccc
  have hO_0ccc := hO_0cc.extK hw_0ccc hB1l
  have hZ_0ccc := blk_ext hZ_0cc hw_0ccc hRB
  obtain ⟨r0, r1, s0_, s1_, zR⟩ := blk2 hZ_0ccc
  refine wpAnyH_ready (rs := [8]) (by kernel_rfl) (by simp) ?_
  refine AllReadyH.cons (o := _) rfl (fun K hK => ?_) AllReadyH.nil
  go_simp
  refine hK.out _ _ (blk_store2 hC_0ccc hCR (.int .i64 d) (.slice A m cp)) (fun hHeld => ?_)
  clear hK K
  try simp only [Act.put, List.getElem_toArray, List.getElem_cons_succ, List.getElem_cons_zero, List.setIfInBounds_toArray, List.set_cons_zero, List.set_cons_succ]
  have hC_0cccw := id hHeld
  have hZ_0cccw := blk2_set (a := .int .i64 d) (b := .slice A m cp) hZ_0ccc
  have hO_0cccw := SOwn.far2Y hO_0ccc hzR (.int .i64 d) (.slice A m cp)
  have hB_0cccw := store2_bel (hB1.trans (hX_0ccc.below (N := w.heap.size) (by omega) hB1.size)) (Nat.le_refl _) (.int .i64 d) (.slice A m cp)
  refine wpAnyH_take (i := 9) (oi := _) (v := ?_) rfl (by kernel_rfl) (by kernel_rfl) (by kernel_rfl) (fun _ _ _ h => h) (Or.inl ⟨by rfl, ?_⟩) (by assumption) ?_
  (rotate_left); (focus (intro wv hSw; (have qC := hSw);  go_simp; (try with_reducible rfl)))
  try simp only [Act.put, List.getElem_toArray, List.getElem_cons_succ, List.getElem_cons_zero, List.setIfInBounds_toArray, List.set_cons_zero, List.set_cons_succ]
  refine wpAnyH_take (i := 10) (oi := _) (v := ?_) rfl (by kernel_rfl) (by kernel_rfl) (by kernel_rfl) (fun _ _ _ h => h) (Or.inl ⟨by rfl, ?_⟩) (by assumption) ?_
  (rotate_left); (focus (intro wv hSw; (have qC := hSw);  go_simp; (try with_reducible rfl)))
  try simp only [Act.put, List.getElem_toArray, List.getElem_cons_succ, List.getElem_cons_zero, List.setIfInBounds_toArray, List.set_cons_zero, List.set_cons_succ]
  refine wpAnyH_take (i := 11) (oi := _) (v := ?_) rfl (by kernel_rfl) (by kernel_rfl) (by kernel_rfl) (fun _ _ _ h => h) (Or.inl ⟨by rfl, ?_⟩) (by assumption) ?_
  (rotate_left); (focus (intro wv hSw; (have qC := hSw);  go_simp; (try with_reducible rfl)))
  try simp only [Act.put, List.getElem_toArray, List.getElem_cons_succ, List.getElem_cons_zero, List.setIfInBounds_toArray, List.set_cons_zero, List.set_cons_succ]
  refine wpAnyH_done (by kernel_rfl) ?_ _
  obtain ⟨r0, r1, s0_, s1_, zR⟩ := blk2 hZ_0cccw
  go_wp2_with fail
  exact bodyPost_ret (v := .tuple #[.agg #[.int .i64 d, .slice A m cp], .int .i64 x, .int .i64 y, .int .i64 z]) (by simp [results, Try.results19, go_sem, r0, r1]) rfl ⟨d, xs, A, cp, x, y, z, by rw [HM.out], hd, by rw [HM.out]; exact hx6, hO_0cccw.mono hz1, hxb, hyb, hzb, hB_0cccw⟩
set_option maxRecDepth 100000 in
set_option maxHeartbeats 4000000 in
theorem drKeepLit_any (a : Option Addr) (len cap : Nat) (w : World) (h : CodeOk w a len cap) : Calls Try.prog 42 #[.slice a len cap] w (DrewCity3 w) := by
  go_enter Try.func42, Try.ntmps42
  go_wp2_with fail
  refine (drDark_any _ _ _ _ (code_below h (bel1 w (.cells #[.int .i64 0, .slice none 0 0] 25)))).mono ?_; rintro e w2 ⟨d, xs, A, cp, x, y, z, rfl, hd, hx6, hO2, hxb, hyb, hzb, hb2⟩
  obtain ⟨m, hm⟩ : ∃ m, xs.length = m := ⟨_, rfl⟩
  rw [hm] at hx6 ⊢
  have HM := Lib.hid hm
  clear hm
  obtain ⟨hZ2, hB2⟩ := ownb hb2
  obtain ⟨r0, r1, s0_, s1_, zR⟩ := blk2 hZ2
  simp only [World.size_alloc] at hO2
  have hO3 := SOwn.far2Y hO2 (Nat.lt_succ_self _) (.int .i64 d) (.slice A m cp)
  go_wp2_with fail
  exact bodyPost_ret (v := .tuple #[.agg #[.int .i64 d, .slice A m cp], .int .i64 x, .int .i64 y, .int .i64 z]) (by simp [results, Try.results42, go_sem, r0, r1]) rfl ⟨d, xs, A, cp, x, y, z, by rw [HM.out], hd, by rw [HM.out]; exact hx6, hO3.mono (Nat.le_succ _), hxb, hyb, hzb, store2_bel hB2 (Nat.le_refl _) _ _⟩
set_option maxRecDepth 100000 in
set_option maxHeartbeats 4000000 in
theorem drCitySet_any (a : Option Addr) (len cap : Nat) (w : World) (h : CodeOk w a len cap) : Calls Try.prog 33 #[.slice a len cap] w (DrewCity2 w) := by
  go_enter Try.func33, Try.ntmps33
  go_wp2_with fail
  refine (open_any _ _ _ _ (code_below h (bel1 w (.cells #[.int .i64 0, .slice none 0 0] 25)))).mono ?_; rintro e w1 ⟨B, rfl, hB, h1, hb1⟩
  obtain ⟨hZ1, hB1⟩ := ownb hb1
  simp at hB
  have hz1 := hB1.size
  have hzR := blk_lt hZ1
  go_wp2_with fail
  refine (city_any B 0 12 _ h1 (by omega) (by omega) (by omega)).mono ?_; rintro e w2 ⟨d, xs, A, cp, rfl, hd, hx6, hO2, h2, hx2⟩
  obtain ⟨m, hm⟩ : ∃ m, xs.length = m := ⟨_, rfl⟩
  rw [hm] at hx6 ⊢
  have HM := Lib.hid hm
  clear hm
  have hC2 := blk_new w2 (.cells #[.int .i64 d, .slice A m cp] 25)
  have hZ2 := blk_old (blk_ext hZ1 hx2 (by omega)) (.cells #[.int .i64 d, .slice A m cp] 25)
  have hO_0 := (hO2.alloc (.cells #[.int .i64 d, .slice A m cp] 25)).drew
  have hB2l := h2.lt
  have hR_0 := (h2.alloc (.cells #[.int .i64 d, .slice A m cp] 25)).drw
  have hX_0 := ((hx2.alloc (.cells #[.int .i64 d, .slice A m cp] 25))).drw
  have hZ_0 := blk_drw hZ2
  have hCB : w2.heap.size ≠ B := by omega
  have hz2 := hx2.size
  have hCR : w2.heap.size ≠ w.heap.size := by omega
  have hRB : w.heap.size ≠ B := by omega
  have hB1l := h1.lt
  go_wp2_with fail
  refine wp_region_held_drew (S := (fun w' => w'.heap[w2.heap.size]? = some (.cells #[.int .i64 d, .slice A m cp] 25))) (by kernel_rfl) (hC2) (fun hHeld => ?_)
  have hC_0 := id hHeld
  refine wpAnyH_take (i := 0) (oi := _) (v := ?_) rfl (by kernel_rfl) (by kernel_rfl) (by kernel_rfl) (fun _ _ _ h => h) (Or.inl ⟨by rfl, ?_⟩) (by assumption) ?_
  (rotate_left); (focus (intro wv hSw; (have qC := hSw); obtain ⟨u0_, u1_, _, _, _⟩ := blk2 qC; go_simp; (try with_reducible rfl)))
  try simp only [Act.put, List.getElem_toArray, List.getElem_cons_succ, List.getElem_cons_zero, List.setIfInBounds_toArray, List.set_cons_zero, List.set_cons_succ]
  refine wpAnyH_take (i := 1) (oi := _) (v := ?_) rfl (by kernel_rfl) (by kernel_rfl) (by kernel_rfl) (fun _ _ _ h => h) (Or.inl ⟨by rfl, ?_⟩) (by assumption) ?_
  (rotate_left); (focus (intro wv hSw; (have qC := hSw);  go_simp; (try with_reducible rfl)))
  try simp only [Act.put, List.getElem_toArray, List.getElem_cons_succ, List.getElem_cons_zero, List.setIfInBounds_toArray, List.set_cons_zero, List.set_cons_succ]
  refine wpAnyH_take (i := 2) (oi := _) (v := ?_) rfl (by kernel_rfl) (by kernel_rfl) (by kernel_rfl) (fun _ _ _ h => h) (Or.inl ⟨by rfl, ?_⟩) (by assumption) ?_
  (rotate_left); (focus (intro wv hSw; (have qC := hSw); obtain ⟨u0_, u1_, _, _, _⟩ := blk2 qC; go_simp; (try with_reducible rfl)))
  try simp only [Act.put, List.getElem_toArray, List.getElem_cons_succ, List.getElem_cons_zero, List.setIfInBounds_toArray, List.set_cons_zero, List.set_cons_succ]
  refine wpAnyH_take (i := 4) (oi := _) (v := ?_) rfl (by kernel_rfl) (by kernel_rfl) (by kernel_rfl) (fun _ _ _ h => h) (Or.inl ⟨by rfl, ?_⟩) (by assumption) ?_
  (rotate_left); (focus (intro wv hSw; (have qC := hSw);  go_simp; (try with_reducible rfl)))
  try simp only [Act.put, List.getElem_toArray, List.getElem_cons_succ, List.getElem_cons_zero, List.setIfInBounds_toArray, List.set_cons_zero, List.set_cons_succ]
  refine wpAnyH_take (i := 6) (oi := _) (v := ?_) rfl (by kernel_rfl) (by kernel_rfl) (by kernel_rfl) (fun _ _ _ h => h) (Or.inl ⟨by rfl, ?_⟩) (by assumption) ?_
  (rotate_left); (focus (intro wv hSw; (have qC := hSw);  go_simp; (try with_reducible rfl)))
  try simp only [Act.put, List.getElem_toArray, List.getElem_cons_succ, List.getElem_cons_zero, List.setIfInBounds_toArray, List.set_cons_zero, List.set_cons_succ]
  refine wpAnyH_take (i := 11) (oi := _) (v := ?_) rfl (by kernel_rfl) (by kernel_rfl) (by kernel_rfl) (fun _ _ _ h => h) (Or.inl ⟨by rfl, ?_⟩) (by assumption) ?_
  (rotate_left); (focus (intro wv hSw; (have qC := hSw);  go_simp; (try with_reducible rfl)))
  try simp only [Act.put, List.getElem_toArray, List.getElem_cons_succ, List.getElem_cons_zero, List.setIfInBounds_toArray, List.set_cons_zero, List.set_cons_succ]
  refine wpAnyH_ready (rs := [3]) (by kernel_rfl) (by simp) ?_
  refine AllReadyH.cons (o := _) rfl (fun K hK => ?_) AllReadyH.nil
  go_simp
  (go_at_call 52; refine (cell_any B _ d A m cp (by omega) _ hR_0 (by omega)).mono ?_; rintro e x0c ⟨x, rfl, hxb, hR_0c, hw_0c⟩)
  refine hK.out _ _ (blk_ext hC_0 hw_0c hCB) (fun hHeld => ?_)
  clear hK K
  try simp only [Act.put, List.getElem_toArray, List.getElem_cons_succ, List.getElem_cons_zero, List.setIfInBounds_toArray, List.set_cons_zero, List.set_cons_succ]
  have hC_0c := id hHeld
  have hX_0c := hX_0.trans hw_0c
  have hO_0c := hO_0.extK hw_0c hB1l
  have hZ_0c := blk_ext hZ_0 hw_0c hRB
  refine wpAnyH_ready (rs := [5]) (by kernel_rfl) (by simp) ?_
  refine AllReadyH.cons (o := _) rfl (fun K hK => ?_) AllReadyH.nil
  go_simp
  (go_at_call 64; refine (pick_any B _ 21 _ hR_0c (by omega) (by omega) (by omega)).mono ?_; rintro e x0cc ⟨a9, rfl, a90, a91, hR_0cc, hw_0cc⟩)
  refine hK.out _ _ (blk_ext hC_0c hw_0cc hCB) (fun hHeld => ?_)
  clear hK K
  try simp only [Act.put, List.getElem_toArray, List.getElem_cons_succ, List.getElem_cons_zero, List.setIfInBounds_toArray, List.set_cons_zero, List.set_cons_succ]
  have hC_0cc := id hHeld
  have hX_0cc := hX_0c.trans hw_0cc
  have hO_0cc := hO_0c.extK hw_0cc hB1l
  have hZ_0cc := blk_ext hZ_0c hw_0cc hRB
  refine wpAnyH_ready (rs := [7]) (by kernel_rfl) (by simp) ?_
  refine AllReadyH.cons (o := _) rfl (fun K hK => ?_) AllReadyH.nil
  go_simp
  (go_at_call 64; refine (pick_any B _ 30 _ hR_0cc (by omega) (by omega) (by omega)).mono ?_; rintro e x0ccc ⟨c, rfl, c0, c1, hR_0ccc, hw_0ccc⟩)
  refine hK.out _ _ (blk_ext hC_0cc hw_0ccc hCB) (fun hHeld => ?_)
  clear hK K
  try simp only [Act.put, List.getElem_toArray, List.getElem_cons_succ, List.getElem_cons_zero, List.setIfInBounds_toArray, List.set_cons_zero, List.set_cons_succ]
  have hC_0ccc := id hHeld
  have hX_0ccc := hX_0cc.trans hw_0ccc
  have hO_0ccc := hO_0cc.extK hw_0ccc hB1l
  have hZ_0ccc := blk_ext hZ_0cc hw_0ccc hRB
  obtain ⟨qc0, qc1⟩ := quo39c (k := 29) (by omega) c0 (by omega)
  obtain ⟨qc, hqc⟩ : ∃ q, Int.tdiv c 29 = q := ⟨_, rfl⟩
  rw [hqc] at qc0 qc1
  have hqqc : c / 29 = qc := by rw [← hqc, Int.tdiv_eq_ediv_of_nonneg c0]
  have hqwc : IntKind.i64.wrap qc = qc := IntWalk.i64_in _ (by omega)
  obtain ⟨p1, hp1⟩ : ∃ p, qc * 21 = p := ⟨_, rfl⟩
  have p10 : 0 ≤ p1 ∧ p1 ≤ 21 := by omega
  have hpw1 : IntKind.i64.wrap p1 = p1 := IntWalk.i64_in _ (by omega)
  obtain ⟨s1, hs1⟩ : ∃ s, a9 + p1 = s := ⟨_, rfl⟩
  have s10 : 0 ≤ s1 ∧ s1 ≤ 42 := by omega
  have hsw1 : IntKind.i64.wrap s1 = s1 := IntWalk.i64_in _ (by omega)
  refine wpAnyH_take (i := 8) (oi := _) (v := ?_) rfl (by kernel_rfl) (by kernel_rfl) (by kernel_rfl) (fun _ _ _ h => h) (Or.inl ⟨by rfl, ?_⟩) (by assumption) ?_
  (rotate_left); (focus (intro wv hSw; (have qC := hSw);  go_simp; (try with_reducible rfl)))
  try simp only [Act.put, List.getElem_toArray, List.getElem_cons_succ, List.getElem_cons_zero, List.setIfInBounds_toArray, List.set_cons_zero, List.set_cons_succ]
  refine wpAnyH_take (i := 9) (oi := _) (v := ?_) rfl (by kernel_rfl) (by kernel_rfl) (by kernel_rfl) (fun _ _ _ h => h) (Or.inl ⟨by rfl, ?_⟩) (by assumption) ?_
  (rotate_left); (focus (intro wv hSw; (have qC := hSw);  go_simp; (try with_reducible rfl)))
  try simp only [Act.put, List.getElem_toArray, List.getElem_cons_succ, List.getElem_cons_zero, List.setIfInBounds_toArray, List.set_cons_zero, List.set_cons_succ]
  refine wpAnyH_take (i := 10) (oi := _) (v := ?_) rfl (by kernel_rfl) (by kernel_rfl) (by kernel_rfl) (fun _ _ _ h => h) (Or.inl ⟨by rfl, ?_⟩) (by assumption) ?_
  (rotate_left); (focus (intro wv hSw; (have qC := hSw);  go_simp; (try with_reducible rfl)))
  try simp only [Act.put, List.getElem_toArray, List.getElem_cons_succ, List.getElem_cons_zero, List.setIfInBounds_toArray, List.set_cons_zero, List.set_cons_succ]
  refine wpAnyH_ready (rs := [12]) (by kernel_rfl) (by simp) ?_
  refine AllReadyH.cons (o := _) rfl (fun K hK => ?_) AllReadyH.nil
  go_simp
  (go_at_call 64; refine (pick_any B _ 30 _ hR_0ccc (by omega) (by omega) (by omega)).mono ?_; rintro e x0cccc ⟨e9, rfl, e90, e91, hR_0cccc, hw_0cccc⟩)
  refine hK.out _ _ (blk_ext hC_0ccc hw_0cccc hCB) (fun hHeld => ?_)
  clear hK K
  try simp only [Act.put, List.getElem_toArray, List.getElem_cons_succ, List.getElem_cons_zero, List.setIfInBounds_toArray, List.set_cons_zero, List.set_cons_succ]
  have hC_0cccc := id hHeld
  have hX_0cccc := hX_0ccc.trans hw_0cccc
  have hO_0cccc := hO_0ccc.extK hw_0cccc hB1l
  have hZ_0cccc := blk_ext hZ_0ccc hw_0cccc hRB
  obtain ⟨qe90, qe91⟩ := quo39c (k := 29) (by omega) e90 (by omega)
  obtain ⟨qe9, hqe9⟩ : ∃ q, Int.tdiv e9 29 = q := ⟨_, rfl⟩
  rw [hqe9] at qe90 qe91
  have hqqe9 : e9 / 29 = qe9 := by rw [← hqe9, Int.tdiv_eq_ediv_of_nonneg e90]
  have hqwe9 : IntKind.i64.wrap qe9 = qe9 := IntWalk.i64_in _ (by omega)
  obtain ⟨p2, hp2⟩ : ∃ p, qe9 * 30 = p := ⟨_, rfl⟩
  have p20 : 0 ≤ p2 ∧ p2 ≤ 30 := by omega
  have hpw2 : IntKind.i64.wrap p2 = p2 := IntWalk.i64_in _ (by omega)
  obtain ⟨y, hy⟩ : ∃ s, s1 - p2 = s := ⟨_, rfl⟩
  have hyb : -100 ≤ y ∧ y ≤ 200 := by omega
  have hyw : IntKind.i64.wrap y = y := IntWalk.i64_in _ (by omega)
  refine wpAnyH_take (i := 13) (oi := _) (v := ?_) rfl (by kernel_rfl) (by kernel_rfl) (by kernel_rfl) (fun _ _ _ h => h) (Or.inl ⟨by rfl, ?_⟩) (by assumption) ?_
  (rotate_left); (focus (intro wv hSw; (have qC := hSw);  go_simp; (try with_reducible rfl)))
  try simp only [Act.put, List.getElem_toArray, List.getElem_cons_succ, List.getElem_cons_zero, List.setIfInBounds_toArray, List.set_cons_zero, List.set_cons_succ]
  refine wpAnyH_take (i := 14) (oi := _) (v := ?_) rfl (by kernel_rfl) (by kernel_rfl) (by kernel_rfl) (fun _ _ _ h => h) (Or.inl ⟨by rfl, ?_⟩) (by assumption) ?_
  (rotate_left); (focus (intro wv hSw; (have qC := hSw);  go_simp; (try with_reducible rfl)))
  try simp only [Act.put, List.getElem_toArray, List.getElem_cons_succ, List.getElem_cons_zero, List.setIfInBounds_toArray, List.set_cons_zero, List.set_cons_succ]
  refine wpAnyH_take (i := 15) (oi := _) (v := ?_) rfl (by kernel_rfl) (by kernel_rfl) (by kernel_rfl) (fun _ _ _ h => h) (Or.inl ⟨by rfl, ?_⟩) (by assumption) ?_
  (rotate_left); (focus (intro wv hSw; (have qC := hSw);  go_simp; (try with_reducible rfl)))
  try simp only [Act.put, List.getElem_toArray, List.getElem_cons_succ, List.getElem_cons_zero, List.setIfInBounds_toArray, List.set_cons_zero, List.set_cons_succ]
  obtain ⟨r0, r1, s0_, s1_, zR⟩ := blk2 hZ_0cccc
  refine wpAnyH_ready (rs := [16]) (by kernel_rfl) (by simp) ?_
  refine AllReadyH.cons (o := _) rfl (fun K hK => ?_) AllReadyH.nil
  go_simp
  refine hK.out _ _ (blk_store2 hC_0cccc hCR (.int .i64 d) (.slice A m cp)) (fun hHeld => ?_)
  clear hK K
  try simp only [Act.put, List.getElem_toArray, List.getElem_cons_succ, List.getElem_cons_zero, List.setIfInBounds_toArray, List.set_cons_zero, List.set_cons_succ]
  have hC_0ccccw := id hHeld
  have hZ_0ccccw := blk2_set (a := .int .i64 d) (b := .slice A m cp) hZ_0cccc
  have hO_0ccccw := SOwn.far2Y hO_0cccc hzR (.int .i64 d) (.slice A m cp)
  have hB_0ccccw := store2_bel (hB1.trans (hX_0cccc.below (N := w.heap.size) (by omega) hB1.size)) (Nat.le_refl _) (.int .i64 d) (.slice A m cp)
  refine wpAnyH_take (i := 17) (oi := _) (v := ?_) rfl (by kernel_rfl) (by kernel_rfl) (by kernel_rfl) (fun _ _ _ h => h) (Or.inl ⟨by rfl, ?_⟩) (by assumption) ?_
  (rotate_left); (focus (intro wv hSw; (have qC := hSw);  go_simp; (try with_reducible rfl)))
  try simp only [Act.put, List.getElem_toArray, List.getElem_cons_succ, List.getElem_cons_zero, List.setIfInBounds_toArray, List.set_cons_zero, List.set_cons_succ]
  refine wpAnyH_take (i := 18) (oi := _) (v := ?_) rfl (by kernel_rfl) (by kernel_rfl) (by kernel_rfl) (fun _ _ _ h => h) (Or.inl ⟨by rfl, ?_⟩) (by assumption) ?_
  (rotate_left); (focus (intro wv hSw; (have qC := hSw);  go_simp; (try with_reducible rfl)))
  try simp only [Act.put, List.getElem_toArray, List.getElem_cons_succ, List.getElem_cons_zero, List.setIfInBounds_toArray, List.set_cons_zero, List.set_cons_succ]
  refine wpAnyH_done (by kernel_rfl) ?_ _
  obtain ⟨r0, r1, s0_, s1_, zR⟩ := blk2 hZ_0ccccw
  go_wp2_with fail
  exact bodyPost_ret (v := .tuple #[.agg #[.int .i64 d, .slice A m cp], .int .i64 x, .int .i64 y]) (by simp [results, Try.results33, go_sem, r0, r1]) rfl ⟨d, xs, A, cp, x, y, by rw [HM.out], hd, by rw [HM.out]; exact hx6, hO_0ccccw.mono hz1, hxb, hyb, hB_0ccccw⟩
end Go.Proofs.Ytidppabconifkaa
