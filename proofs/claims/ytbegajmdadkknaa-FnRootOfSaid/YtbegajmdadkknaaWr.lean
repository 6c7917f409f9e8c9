/- Contracts of chapter 2: roots. -/
import Derived.Test.YtbegajmdadkknaaWa
import Derived.Deep.DeepCutAuto
namespace Go.Proofs.Ytbegajmdadkknaa
open Go.ChangeShapes Go.WideShapes Go.ChangeAt Go.RowKit
set_option linter.unusedSimpArgs false
set_option linter.unusedVariables false

theorem lt_sq (n : Int) (h0 : 0 ≤ n) : n < (n + 1) * (n + 1) := by
  have e : (n + 1) * (n + 1) = n * n + 2 * n + 1 := by grind
  have := sqn n
  omega
def RootIs (n r : Int) : Prop := 0 ≤ r ∧ r * r ≤ n ∧ n < (r + 1) * (r + 1)
theorem sq_mono {a b : Int} (h0 : 0 ≤ a) (h : a ≤ b) : a * a ≤ b * b := Int.mul_le_mul h h h0 (by omega)
theorem RootIs.unique {n r q : Int} (h : RootIs n r) (k : RootIs n q) : r = q := by
  obtain ⟨h0, h1, h2⟩ := h
  obtain ⟨k0, k1, k2⟩ := k
  rcases Int.lt_trichotomy r q with l | l | l
  · have := sq_mono (a := r + 1) (b := q) (by omega) (by omega); omega
  · exact l
  · have := sq_mono (a := q + 1) (b := r) (by omega) (by omega); omega
def RootRet (n : Int) (w : World) (e : Ending) (w' : World) : Prop := ∃ r : Int, e = .returned (.int .i64 r) ∧ RootIs n r ∧ r ≤ 31623 ∧ w = w'
theorem sRoot_f (n : Int) (w : World) (h : ¬ (0 ≤ n ∧ n ≤ 1000000000)) : Calls Try.prog 36 #[.int .i64 n] w fun e w' => e = .returned (.int .i64 (-1)) ∧ w = w' := by
  have hb : inW n 0 1000000000 = false := by unfold inW; simpa using h
  go_enter Try.func36, Try.ntmps36
  go_wp2_with fail
  refine (l1InW_any _ _ _ _).mono ?_; rintro e w' ⟨rfl, rfl⟩
  go_wp2
  go_ret
  exact ⟨rfl, rfl⟩
set_option maxHeartbeats 2000000 in
theorem sRoot_t (n : Int) (w : World) (h0 : 0 ≤ n) (h1 : n ≤ 1000000000) : Calls Try.prog 36 #[.int .i64 n] w (RootRet n w) := by
  have hb : inW n 0 1000000000 = true := by unfold inW; simp; omega
  go_enter Try.func36, Try.ntmps36
  go_wp2_with fail
  refine (l1InW_any _ _ _ _).mono ?_; rintro e w' ⟨rfl, rfl⟩
  go_wp2_with fail
  go_loop [3, 4] (fun l h => ∃ a b : Int, 0 ≤ a ∧ a ≤ b ∧ b ≤ 31623 ∧ a * a ≤ n ∧ n < (b + 1) * (b + 1) ∧ l = .int .i64 a ∧ h = .int .i64 b) (fun l h => (intOf h - intOf l).toNat)
  case atStart => exact ⟨0, 31623, by omega, by omega, by omega, by omega, by omega, rfl, rfl⟩
  case round =>
    obtain ⟨a, b, a0, ab, b1, ha, hb2, rfl, rfl⟩ := hrel
    have H := Lib.hid (And.intro ha hb2)
    clear ha hb2
    by_cases hlt : a < b
    · have hm0 : a < (a + b + 1) / 2 := by omega
      have hm1 : (a + b + 1) / 2 ≤ b := by omega
      have q0 : 0 ≤ (a + b + 1) / 2 * ((a + b + 1) / 2) := Int.mul_nonneg (by omega) (by omega)
      have q1 : (a + b + 1) / 2 * ((a + b + 1) / 2) ≤ 31623 * 31623 := sq_mono (by omega) (by omega)
      by_cases hc : (a + b + 1) / 2 * ((a + b + 1) / 2) ≤ n
      · go_wp2_with fail
        go_round
        case rel => exact ⟨(a + b + 1) / 2, b, by omega, hm1, b1, hc, H.out.2, rfl, rfl⟩
        case measure => simp [intOf]; omega
      · go_wp2_with fail
        go_round
        case rel => exact ⟨a, (a + b + 1) / 2 - 1, a0, by omega, by omega, H.out.1, by rw [show (a + b + 1) / 2 - 1 + 1 = (a + b + 1) / 2 by omega]; omega, rfl, rfl⟩
        case measure => simp [intOf]; omega
    · obtain rfl : a = b := by omega
      go_wp2_with fail
      go_ret
      exact ⟨a, rfl, ⟨a0, H.out⟩, b1, rfl⟩
theorem iRoot_f (n : Int) (w : World) (h : ¬ (0 ≤ n ∧ n ≤ 1000000000)) : Calls Try.prog 35 #[.int .i64 n] w fun e w' => e = .returned (.int .i64 (-1)) ∧ Below w.heap.size w w' := by
  have h' : n < 0 ∨ 1000000000 < n := by omega
  clear h
  rcases h' with h | h
  all_goals
    go_enter Try.func35, Try.ntmps35
    go_wp2_with fail
    go_ret
    exact ⟨rfl, bel1 _ _⟩
theorem RootIs.le {n r : Int} (h : RootIs n r) (hn : n ≤ 1000000000) : r ≤ 31623 := by
  obtain ⟨h0, h1, h2⟩ := h
  rcases Int.lt_or_le r 31624 with k | k
  · omega
  · have := sq_mono (a := 31624) (b := r) (by omega) k; omega
set_option maxHeartbeats 2000000 in
theorem search_any (n : Int) (B : Nat) (w : World) (h0 : 0 ≤ n) (h1 : n ≤ 1000000000) (hc : w.cell? ⟨B, 0, none⟩ = some (.int .i64 n)) :
    Calls Try.prog 47 #[.int .i64 n, .func (.func 48) #[] #[.pointer (some ⟨B, 0, none⟩)]] w (RootRet n w) := by
  go_enter Try.func47, Try.ntmps47
  go_wp2_with fail
  go_loop [5, 6] (fun l h => ∃ a b : Int, 0 ≤ a ∧ a ≤ b ∧ b ≤ n ∧ a * a ≤ n ∧ n < (b + 1) * (b + 1) ∧ l = .int .i64 a ∧ h = .int .i64 b) (fun l h => (intOf h - intOf l).toNat)
  case atStart => exact ⟨0, n, by omega, by omega, by omega, by omega, lt_sq n h0, rfl, rfl⟩
  case round =>
    obtain ⟨a, b, a0, ab, b1, ha, hb2, rfl, rfl⟩ := hrel
    have H := Lib.hid (And.intro ha hb2)
    clear ha hb2
    by_cases hlt : a < b
    · have hm0 : a ≤ (a + b) / 2 := by omega
      have hm1 : (a + b) / 2 < b := by omega
      have q0 : 0 ≤ ((a + b) / 2 + 1) * ((a + b) / 2 + 1) := Int.mul_nonneg (by omega) (by omega)
      have q1 : ((a + b) / 2 + 1) * ((a + b) / 2 + 1) ≤ 1000000000 * 1000000000 := sq_mono (by omega) (by omega)
      by_cases hc : ((a + b) / 2 + 1) * ((a + b) / 2 + 1) ≤ n
      · have hd : decide (n < ((a + b) / 2 + 1) * ((a + b) / 2 + 1)) = false := by simpa using hc
        go_wp2
        go_round
        case rel => exact ⟨(a + b) / 2 + 1, b, by omega, by omega, b1, hc, H.out.2, rfl, rfl⟩
        case measure => simp [intOf]; omega
      · have hd : decide (n < ((a + b) / 2 + 1) * ((a + b) / 2 + 1)) = true := by simp; omega
        go_wp2
        go_round
        case rel => exact ⟨a, (a + b) / 2, a0, by omega, by omega, H.out.1, by omega, rfl, rfl⟩
        case measure => simp [intOf]; omega
    · obtain rfl : a = b := by omega
      go_wp2_with fail
      go_ret
      exact ⟨a, rfl, ⟨a0, H.out⟩, RootIs.le ⟨a0, H.out⟩ h1, rfl⟩
def RootRetB (n : Int) (w : World) (e : Ending) (w' : World) : Prop := ∃ r : Int, e = .returned (.int .i64 r) ∧ RootIs n r ∧ r ≤ 31623 ∧ Below w.heap.size w w'
theorem iRoot_t (n : Int) (w : World) (h0 : 0 ≤ n) (h1 : n ≤ 1000000000) : Calls Try.prog 35 #[.int .i64 n] w (RootRetB n w) := by
  go_enter Try.func35, Try.ntmps35
  go_wp2_with fail
  refine (search_any _ _ _ h0 h1 (by simp)).mono ?_; rintro e w1 ⟨r, rfl, hr, r1, rfl⟩
  go_wp2
  go_ret
  exact ⟨r, rfl, hr, r1, bel1 _ _⟩
end Go.Proofs.Ytbegajmdadkknaa
