/- Warmth and minutes that are drawn; what the laws of rooms draw. -/
import Derived.Test.YtpmbjdfecbmgoabBd
import Derived.Test.YtpmbjdfecbmgoabGBool
namespace Go.Proofs.Ytpmbjdfecbmgoab
open Go Go.ChangeShapes Go.WideShapes Go.ChangeAt Go.RowKit
set_option linter.unusedSimpArgs false
set_option linter.unusedVariables false

def WarmIs (B : Nat) (u : Int) (w : World) (e : Ending) (w' : World) : Prop := ∃ v : Int, e = .returned (.int .i64 v) ∧ -600 ≤ v ∧ v ≤ 1001 ∧ RdU B u w' ∧ Ext B w w'
set_option maxHeartbeats 8000000 in
theorem warm_any (B : Nat) (u : Int) (w : World) (h : RdU B u w) (hu : u ≤ 800000) : Calls Try.prog 29 #[.pointer (some ⟨B, 0, none⟩)] w (WarmIs B (u + 3) w) := by
  go_enter Try.func29, Try.ntmps29
  go_wp2_with fail
  refine (pick_any B (_) 251 _ h (by omega) (by omega) (by omega)).mono ?_; rintro e w1 ⟨a, rfl, a0, a1, hw1, hxw1⟩
  have hE1 := hxw1
  go_wp2_with fail
  refine (pick_any B (_) 40 _ hw1 (by omega) (by omega) (by omega)).mono ?_; rintro e w2 ⟨c, rfl, c0, c1, hw2, hxw2⟩
  have hE2 := hE1.trans hxw2
  obtain ⟨x, hx⟩ : ∃ y, Int.tdiv c 39 = y := ⟨_, rfl⟩
  have hx9 : 0 ≤ x ∧ x ≤ 1 := by rw [← hx, Int.tdiv_eq_ediv_of_nonneg c0]; omega
  obtain ⟨x0, x1⟩ := hx9
  have hx8 : c / 39 = x := by rw [← hx, Int.tdiv_eq_ediv_of_nonneg c0]
  go_wp2_with fail
  refine (pick_any B (_) 40 _ hw2 (by omega) (by omega) (by omega)).mono ?_; rintro e w3 ⟨d, rfl, d0, d1, hw3, hxw3⟩
  have hE3 := hE2.trans hxw3
  obtain ⟨y, hy⟩ : ∃ y, Int.tdiv d 39 = y := ⟨_, rfl⟩
  have hy9 : 0 ≤ y ∧ y ≤ 1 := by rw [← hy, Int.tdiv_eq_ediv_of_nonneg d0]; omega
  obtain ⟨y0, y1⟩ := hy9
  have hy8 : d / 39 = y := by rw [← hy, Int.tdiv_eq_ediv_of_nonneg d0]
  go_wp2
  go_ret
  exact ⟨a * 2 + x * 501 - y * 600, rfl, by omega, by omega, hw3.mono (by omega), hE3⟩
def KeepsIs (B : Nat) (u : Int) (w : World) (e : Ending) (w' : World) : Prop := ∃ v : Int, e = .returned (.int .i64 v) ∧ -1 ≤ v ∧ v ≤ 101 ∧ RdU B u w' ∧ Ext B w w'
set_option maxHeartbeats 8000000 in
theorem keeps_any (B : Nat) (u : Int) (w : World) (h : RdU B u w) (hu : u ≤ 800000) : Calls Try.prog 31 #[.pointer (some ⟨B, 0, none⟩)] w (KeepsIs B (u + 3) w) := by
  go_enter Try.func31, Try.ntmps31
  go_wp2_with fail
  refine (pick_any B (_) 30 _ h (by omega) (by omega) (by omega)).mono ?_; rintro e w1 ⟨a, rfl, a0, a1, hw1, hxw1⟩
  have hE1 := hxw1
  go_wp2_with fail
  refine (pick_any B (_) 30 _ hw1 (by omega) (by omega) (by omega)).mono ?_; rintro e w2 ⟨c, rfl, c0, c1, hw2, hxw2⟩
  have hE2 := hE1.trans hxw2
  obtain ⟨x, hx⟩ : ∃ y, Int.tdiv c 29 = y := ⟨_, rfl⟩
  have hx9 : 0 ≤ x ∧ x ≤ 1 := by rw [← hx, Int.tdiv_eq_ediv_of_nonneg c0]; omega
  obtain ⟨x0, x1⟩ := hx9
  have hx8 : c / 29 = x := by rw [← hx, Int.tdiv_eq_ediv_of_nonneg c0]
  go_wp2_with fail
  refine (pick_any B (_) 30 _ hw2 (by omega) (by omega) (by omega)).mono ?_; rintro e w3 ⟨d, rfl, d0, d1, hw3, hxw3⟩
  have hE3 := hE2.trans hxw3
  obtain ⟨y, hy⟩ : ∃ y, Int.tdiv d 29 = y := ⟨_, rfl⟩
  have hy9 : 0 ≤ y ∧ y ≤ 1 := by rw [← hy, Int.tdiv_eq_ediv_of_nonneg d0]; omega
  obtain ⟨y0, y1⟩ := hy9
  have hy8 : d / 29 = y := by rw [← hy, Int.tdiv_eq_ediv_of_nonneg d0]
  go_wp2
  go_ret
  exact ⟨2 + a - x * 3 + y * 70, rfl, by omega, by omega, hw3.mono (by omega), hE3⟩
def MinuteIs (B : Nat) (u : Int) (w : World) (e : Ending) (w' : World) : Prop := ∃ v : Int, e = .returned (.int .i64 v) ∧ -1500 ≤ v ∧ v ≤ 2879 ∧ RdU B u w' ∧ Ext B w w'
set_option maxHeartbeats 8000000 in
theorem minute_any (B : Nat) (u : Int) (w : World) (h : RdU B u w) (hu : u ≤ 800000) : Calls Try.prog 44 #[.pointer (some ⟨B, 0, none⟩)] w (MinuteIs B (u + 4) w) := by
  go_enter Try.func44, Try.ntmps44
  go_wp2_with fail
  refine (pick_any B (_) 24 _ h (by omega) (by omega) (by omega)).mono ?_; rintro e w1 ⟨a, rfl, a0, a1, hw1, hxw1⟩
  have hE1 := hxw1
  go_wp2_with fail
  refine (pick_any B (_) 60 _ hw1 (by omega) (by omega) (by omega)).mono ?_; rintro e w2 ⟨f, rfl, f0, f1, hw2, hxw2⟩
  have hE2 := hE1.trans hxw2
  go_wp2_with fail
  refine (pick_any B (_) 40 _ hw2 (by omega) (by omega) (by omega)).mono ?_; rintro e w3 ⟨c, rfl, c0, c1, hw3, hxw3⟩
  have hE3 := hE2.trans hxw3
  obtain ⟨x, hx⟩ : ∃ y, Int.tdiv c 39 = y := ⟨_, rfl⟩
  have hx9 : 0 ≤ x ∧ x ≤ 1 := by rw [← hx, Int.tdiv_eq_ediv_of_nonneg c0]; omega
  obtain ⟨x0, x1⟩ := hx9
  have hx8 : c / 39 = x := by rw [← hx, Int.tdiv_eq_ediv_of_nonneg c0]
  go_wp2_with fail
  refine (pick_any B (_) 40 _ hw3 (by omega) (by omega) (by omega)).mono ?_; rintro e w4 ⟨d, rfl, d0, d1, hw4, hxw4⟩
  have hE4 := hE3.trans hxw4
  obtain ⟨y, hy⟩ : ∃ y, Int.tdiv d 39 = y := ⟨_, rfl⟩
  have hy9 : 0 ≤ y ∧ y ≤ 1 := by rw [← hy, Int.tdiv_eq_ediv_of_nonneg d0]; omega
  obtain ⟨y0, y1⟩ := hy9
  have hy8 : d / 39 = y := by rw [← hy, Int.tdiv_eq_ediv_of_nonneg d0]
  go_wp2
  go_ret
  exact ⟨a * 60 + f + x * 1440 - y * 1500, rfl, by omega, by omega, hw4.mono (by omega), hE4⟩
def DrewRoom (w : World) (e : Ending) (w' : World) : Prop := ∃ (a o l k : Int), e = .returned (.tuple #[.int .i64 a, .int .i64 o, .int .i64 l, .int .i64 k]) ∧ (-600 ≤ a ∧ a ≤ 1001) ∧ (-600 ≤ o ∧ o ≤ 1001) ∧ (0 ≤ l ∧ l ≤ 100) ∧ (-1 ≤ k ∧ k ≤ 101) ∧ Below w.heap.size w w'
def DrewRest (w : World) (e : Ending) (w' : World) : Prop := ∃ (a o k : Int), e = .returned (.tuple #[.int .i64 a, .int .i64 o, .int .i64 k]) ∧ (-600 ≤ a ∧ a ≤ 1001) ∧ (-600 ≤ o ∧ o ≤ 1001) ∧ (-1 ≤ k ∧ k ≤ 101) ∧ Below w.heap.size w w'
set_option maxRecDepth 100000 in
set_option maxHeartbeats 4000000 in
theorem drRoomStep_any (a : Option Addr) (len cap : Nat) (w : World) (h : CodeOk w a len cap) : Calls Try.prog 9 #[.slice a len cap] w (DrewRoom w) := by
  go_enter Try.func9, Try.ntmps9
  go_wp2_with fail
  refine (open_any _ _ _ _ h).mono ?_; rintro e w1 ⟨B, rfl, hB, h1, hb1⟩
  go_wp2_with fail
  refine (warm_any B _ _ h1 (by omega)).mono ?_; rintro e w2 ⟨a, rfl, a0, a1, h2, hx2⟩
  have hX2 := hx2
  go_wp2_with fail
  refine (warm_any B _ _ h2 (by omega)).mono ?_; rintro e w3 ⟨o, rfl, o0, o1, h3, hx3⟩
  have hX3 := hX2.trans hx3
  go_wp2_with fail
  refine (pick_any B _ 101 _ h3 (by omega) (by omega) (by omega)).mono ?_; rintro e w4 ⟨l, rfl, l0, l1, h4, hx4⟩
  have hX4 := hX3.trans hx4
  go_wp2_with fail
  refine (keeps_any B _ _ h4 (by omega)).mono ?_; rintro e w5 ⟨k, rfl, k0, k1, h5, hx5⟩
  have hX5 := hX4.trans hx5
  have hB5 := hb1.trans (hX5.below (N := w.heap.size) (by omega) hb1.size)
  go_wp2
  exact bodyPost_ret (v := .tuple #[.int .i64 a, .int .i64 o, .int .i64 l, .int .i64 k]) (by simp [results, Try.results9, go_sem]) rfl ⟨a, o, l, k, rfl, ⟨a0, a1⟩, ⟨o0, o1⟩, ⟨l0, by omega⟩, ⟨k0, k1⟩, hB5⟩
set_option maxRecDepth 100000 in
set_option maxHeartbeats 4000000 in
theorem drRoomRest_any (a : Option Addr) (len cap : Nat) (w : World) (h : CodeOk w a len cap) : Calls Try.prog 16 #[.slice a len cap] w (DrewRest w) := by
  go_enter Try.func16, Try.ntmps16
  go_wp2_with fail
  refine (open_any _ _ _ _ h).mono ?_; rintro e w1 ⟨B, rfl, hB, h1, hb1⟩
  go_wp2_with fail
  refine (warm_any B _ _ h1 (by omega)).mono ?_; rintro e w2 ⟨a, rfl, a0, a1, h2, hx2⟩
  have hX2 := hx2
  go_wp2_with fail
  refine (warm_any B _ _ h2 (by omega)).mono ?_; rintro e w3 ⟨o, rfl, o0, o1, h3, hx3⟩
  have hX3 := hX2.trans hx3
  go_wp2_with fail
  refine (keeps_any B _ _ h3 (by omega)).mono ?_; rintro e w4 ⟨k, rfl, k0, k1, h4, hx4⟩
  have hX4 := hX3.trans hx4
  have hB4 := hb1.trans (hX4.below (N := w.heap.size) (by omega) hb1.size)
  go_wp2
  go_ret3
  exact ⟨a, o, k, rfl, ⟨a0, a1⟩, ⟨o0, o1⟩, ⟨k0, k1⟩, hB4⟩
end Go.Proofs.Ytpmbjdfecbmgoab
