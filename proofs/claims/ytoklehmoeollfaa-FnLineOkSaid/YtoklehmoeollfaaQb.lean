/- Contracts of chapter 9: sets in numbers. -/
import Derived.Test.YtoklehmoeollfaaQa
import Derived.Test.YtoklehmoeollfaaQs
namespace Go.Proofs.Ytoklehmoeollfaa
open Go Go.ChangeShapes Go.WideShapes Go.ChangeAt Go.RowKit
set_option linter.unusedSimpArgs false
set_option linter.unusedVariables false

theorem bits_and1 (y : Int) : bits .and .i64 y 1 = y % 2 := by
  have h : (BitVec.ofInt 64 y &&& BitVec.ofInt 64 1).toNat = (y % 2).toNat := by
    rw [BitVec.toNat_and, BitVec.toNat_ofInt, BitVec.toNat_ofInt]
    have e : ((1 : Int) % ((2 ^ 64 : Nat) : Int)).toNat = 1 := by decide
    rw [e, Nat.and_one_is_mod]
    omega
  show IntKind.i64.wrap ((BitVec.ofInt 64 y &&& BitVec.ofInt 64 1).toNat : Int) = y % 2
  rw [h, IntWalk.i64_in _ (by omega)]
  omega
theorem w64_in (n : Int) (h : -9223372036854775808 ≤ n ∧ n ≤ 9223372036854775807) : wrap64 n = n := IntWalk.wrap64_in n h
theorem all_w {n : Nat} (h : n ≤ 6) : wrap64 (wrap64 (2 ^ n) - 1) = alI n := by
  have h1 := two_bd h
  rw [w64_in (2 ^ n) (by omega), w64_in _ (by omega)]; rfl
theorem two_w {n : Nat} (h : n ≤ 6) : IntKind.i64.wrap ((2 : Int) ^ n) = 2 ^ n := by
  have h1 := two_bd h
  exact IntWalk.i64_in _ (by omega)
theorem wo_bits0 : ∀ s : Fin 64, ∀ j : Fin 6, bits .andNot .i64 ((s : Nat) : Int) ((2 : Int) ^ (j : Nat)) = woI ((s : Nat) : Int) j := by decide +kernel
theorem wo_bits {x : Int} {j : Nat} (h0 : 0 ≤ x) (h1 : x < 64) (hj : j < 6) : bits .andNot .i64 x (wrap64 (2 ^ j)) = woI x j := by
  have h2 := two_bd (n := j) (by omega)
  rw [w64_in _ (by omega)]
  obtain ⟨s, rfl⟩ : ∃ s : Nat, x = s := ⟨x.toNat, by omega⟩
  exact wo_bits0 ⟨s, by omega⟩ ⟨j, hj⟩
set_option maxHeartbeats 4000000 in
theorem iIs_q {x : Int} {j : Nat} {r : Bool} (w : World) (hj : j ≤ 6) (hr : isB x j = r) :
    Calls Try.prog 49 #[.int .i64 x, .int .i64 j] w fun E w' => E = .returned (.bool r) ∧ w = w' := by
  have hji : (j : Int) ≤ 64 := by omega
  have HR := Lib.hid hr
  clear hr
  go_enter Try.func49, Try.ntmps49
  go_wp2
  go_ret
  exact ⟨ret_bool (by rw [bits_and1]; exact HR.out), rfl⟩
theorem iIs_is {x : Int} {j : Nat} {r : Bool} (w : World) (hj : j ≤ 6) (hr : isB x j = r) : Calls Try.prog 49 #[.int .i64 x, .int .i64 j] w fun E w' => E = .returned (.bool r) ∧ Below w.heap.size w w' := (iIs_q w hj hr).mono fun _ _ h => ⟨h.1, h.2 ▸ Below.refl _ _⟩
set_option maxHeartbeats 4000000 in
theorem iAp_q (A : Option Addr) (n cap : Nat) (w : World) (hn : n ≤ 6) :
    Calls Try.prog 48 #[.slice A n cap] w fun E w' => E = .returned (.int .i64 (alI n)) ∧ w = w' := by
  have hni : (n : Int) ≤ 64 := by omega
  go_enter Try.func48, Try.ntmps48
  go_wp2
  go_ret
  exact ⟨ret_int (all_w hn), rfl⟩
set_option maxHeartbeats 4000000 in
theorem iWo_q {x r : Int} {j : Nat} (w : World) (h0 : 0 ≤ x) (h1 : x < 64) (hj : j < 6) (hr : woI x j = r) :
    Calls Try.prog 50 #[.int .i64 x, .int .i64 j] w fun E w' => E = .returned (.int .i64 r) ∧ w = w' := by
  have hji : (j : Int) ≤ 64 := by omega
  have HR := Lib.hid hr
  clear hr
  go_enter Try.func50, Try.ntmps50
  go_wp2
  go_ret
  exact ⟨ret_int ((wo_bits h0 h1 hj).trans HR.out), rfl⟩
end Go.Proofs.Ytoklehmoeollfaa
