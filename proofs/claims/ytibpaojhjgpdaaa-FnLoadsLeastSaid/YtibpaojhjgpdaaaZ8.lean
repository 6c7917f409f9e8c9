/- Loads that are drawn for LoadsLeast and LoadsWith. -/
import Derived.Test.YtibpaojhjgpdaaaZy
namespace Go.Proofs.Ytibpaojhjgpdaaa
open Go Go.ChangeShapes Go.WideShapes Go.ChangeAt Go.RowKit
set_option linter.unusedSimpArgs false
set_option linter.unusedVariables false

set_option maxHeartbeats 4000000 in
theorem drLoadsLeast_any (a : Option Addr) (len cap : Nat) (w : World) (h : CodeOk w a len cap) : Calls Try.prog 39 #[.slice a len cap] w (DrewLoads w) := by
  go_enter Try.func39, Try.ntmps39
  go_wp2_with fail
  refine (open_any _ _ _ _ h).mono ?_; rintro e w1 ⟨B, rfl, hB, h1, hb1⟩
  go_wp2_with fail
  refine (loads_any B 0 9 _ h1 (by omega) (by omega) (by omega)).mono ?_; rintro e w2 ⟨xs, A, cp, rfl, hx6, hO, _, hx⟩
  have hB2 := hb1.trans (hx.below (N := w.heap.size) (by omega) hb1.size)
  have hO2 := hO.mono hb1.size
  go_wp2_with fail
  go_ret
  exact ⟨xs, A, cp, rfl, hx6, hO2, hB2⟩
def DrewLW (w : World) (e : Ending) (w' : World) : Prop := ∃ (xs : List VLoad) (A : Option Addr) (cap : Nat) (m : Int), e = .returned (.tuple #[.slice A xs.length cap, .int .i64 m]) ∧ xs.length ≤ 8 ∧ (-4 ≤ m ∧ m ≤ 11) ∧ SOwn encLoad w' w.heap.size 72 A cap xs ∧ Below w.heap.size w w'
theorem quo29 {n : Int} (h0 : 0 ≤ n) (h1 : n ≤ 29) : 0 ≤ n.tdiv 29 ∧ n.tdiv 29 ≤ 1 := by rw [Int.tdiv_eq_ediv_of_nonneg h0]; omega
theorem quo29e {n : Int} (h0 : 0 ≤ n) (h1 : n ≤ 29) : 0 ≤ n / 29 ∧ n / 29 ≤ 1 := by omega
set_option maxHeartbeats 4000000 in
theorem drLoadsWith_any (a : Option Addr) (len cap : Nat) (w : World) (h : CodeOk w a len cap) : Calls Try.prog 38 #[.slice a len cap] w (DrewLW w) := by
  go_enter Try.func38, Try.ntmps38
  go_wp2_with fail
  refine (open_any _ _ _ _ h).mono ?_; rintro e w1 ⟨B, rfl, hB, h1, hb1⟩
  go_wp2_with fail
  refine (loads_any B 0 9 _ h1 (by omega) (by omega) (by omega)).mono ?_; rintro e w2 ⟨xs, A, cp, rfl, hx6, hO2, h2, hx2⟩
  obtain ⟨m, hm⟩ : ∃ m, xs.length = m := ⟨_, rfl⟩
  rw [hm] at hx6 ⊢
  have HM := Lib.hid hm
  clear hm
  go_wp2_with fail
  refine (pick_any B _ 4 _ h2 (by omega) (by omega) (by omega)).mono ?_; rintro e w3 ⟨p, rfl, p0, p1, h3, hx3⟩
  have hO3 := hO2.extK hx3 h1.lt
  have hX3 := hx2.trans hx3
  go_wp2_with fail
  refine (pick_any B _ 30 _ h3 (by omega) (by omega) (by omega)).mono ?_; rintro e w4 ⟨q, rfl, q0, q1, h4, hx4⟩
  have hO4 := hO3.extK hx4 h1.lt
  have hX4 := hX3.trans hx4
  obtain ⟨qa, qb⟩ := quo29 q0 (by omega)
  obtain ⟨qq, hqq⟩ : ∃ qq, Int.tdiv q 29 = qq := ⟨_, rfl⟩
  rw [hqq] at qa qb
  have HQQ := Lib.hid hqq
  have hqe : q / 29 = qq := by rw [← hqq, Int.tdiv_eq_ediv_of_nonneg q0]
  go_wp2_with fail
  refine (pick_any B _ 30 _ h4 (by omega) (by omega) (by omega)).mono ?_; rintro e w5 ⟨r, rfl, r0, r1, h5, hx5⟩
  have hO5 := hO4.extK hx5 h1.lt
  have hX5 := hX4.trans hx5
  obtain ⟨ra, rb⟩ := quo29 r0 (by omega)
  obtain ⟨rr, hrr⟩ : ∃ rr, Int.tdiv r 29 = rr := ⟨_, rfl⟩
  rw [hrr] at ra rb
  have hre : r / 29 = rr := by rw [← hrr, Int.tdiv_eq_ediv_of_nonneg r0]
  go_wp2
  go_ret2
  exact ⟨xs, A, cp, 1 + p + qq * 7 - rr * 5, (by rw [HM.out]; rfl), (by rw [HM.out]; exact hx6), by omega, hO5.mono hb1.size, hb1.trans (hX5.below (N := w.heap.size) (by omega) hb1.size)⟩
end Go.Proofs.Ytibpaojhjgpdaaa
