/- Sums in the laws. -/
import Derived.Test.YtfgaggdiepielaaZq
import Derived.Test.YtfgaggdiepielaaGNum
import Derived.Test.YtfgaggdiepielaaRows
import Derived.Test.YtfgaggdiepielaaHlp2
namespace Go.Proofs.Ytfgaggdiepielaa
open Go Go.ChangeShapes Go.WideShapes Go.ChangeAt Go.RowKit
set_option linter.unusedSimpArgs false
set_option linter.unusedVariables false

set_option maxHeartbeats 4000000 in
theorem sumOf_is (A : Option Addr) (cap : Nat) (xs : List Int) {n : Nat} (w : World) (hn : xs.length = n) (h : SRow encNum w A xs) (hv : rwB xs = true) :
    Calls Try.prog 32 #[.slice A n cap] w fun E w' => E = .returned (.int .i64 xs.sum) ∧ Below w.heap.size w w' := by
  have HN := Lib.hid hn
  have HV := Lib.hid hv
  have hn10 : n ≤ 10 := by have := (rwB_iff.1 hv).1; omega
  clear hn hv
  go_enter Try.func32, Try.ntmps32
  go_wp2_with fail
  go_loopw [3, 4] (fun sv v wr => ∃ k : Nat, v = .int .i64 k ∧ k ≤ n ∧ sv = .int .i64 (xs.take k).sum ∧ Below w.heap.size w wr) (fun _ v _ => (n - intOf v).toNat)
  case atStart => exact ⟨0, rfl, by omega, rfl, Below.refl _ _⟩
  case round =>
    obtain ⟨k, rfl, k1, rfl, hB⟩ := hrel
    by_cases hlt : k < n
    · have hk : k < xs.length := by rw [HN.out]; exact hlt
      have hki : (k : Int) < (n : Int) := by omega
      obtain ⟨b, off, rfl, hb, c0⟩ := rowNum (h.next hB) hk
      obtain ⟨v0, v1⟩ := rwB_at HV.out hk
      have hs9 := sum_bd7 (xs.take k) (fun x hx => (rwB_iff.1 HV.out).2 x (List.mem_of_mem_take hx))
      rw [List.length_take] at hs9
      obtain ⟨s0, s1⟩ : 0 ≤ (xs.take k).sum ∧ (xs.take k).sum ≤ 500 := by omega
      have HS := Lib.hid (sum_step7 hk)
      clear hs9
      generalize (xs.take k).sum = s at s0 s1 HS ⊢
      generalize xs[k] = v at c0 v0 v1 HS
      go_wp2_with fail
      go_roundw
      case rel => exact ⟨k + 1, by go_num, by omega, by rw [HS.out], hB⟩
      case measure => simp [intOf]; omega
    · obtain rfl : k = n := by omega
      have hki : ¬ (k : Int) < (k : Int) := by omega
      go_wp2_with fail
      go_ret
      exact ⟨ret_int (by rw [List.take_of_length_le (by rw [HN.out]; omega)]), hB⟩
end Go.Proofs.Ytfgaggdiepielaa
