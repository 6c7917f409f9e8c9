/- What the laws of behaviour ask of lists of numbers. -/
import Derived.Test.YtibpaojhjgpdaaaIl
namespace Go.Proofs.Ytibpaojhjgpdaaa
open Go.ChangeShapes Go.WideShapes Go.ChangeAt Go.RowKit
set_option linter.unusedSimpArgs false
set_option linter.unusedVariables false

set_option maxHeartbeats 4000000 in
theorem sameInts_same (A B : Option Addr) (ca cb : Nat) (xs : List Int) (w : World) (hA : IRow w A xs) (hB' : IRow w B xs) (hl : xs.length ≤ 2000000) :
    Calls Try.prog 12 #[.slice A xs.length ca, .slice B xs.length cb] w fun e w' => e = .returned (.bool true) ∧ Below w.heap.size w w' := by
  generalize hn : xs.length = n at hl ⊢
  have HN := Lib.hid hn
  clear hn
  go_enter Try.func12, Try.ntmps12
  go_wp2_with fail
  go_loopw [5] (fun i wr => ∃ k : Nat, k ≤ n ∧ i = .int .i64 k ∧ Below w.heap.size w wr) (fun i _ => (n - intOf i).toNat)
  case atStart => exact ⟨0, by omega, rfl, Below.refl _ _⟩
  case round =>
    obtain ⟨k, k1, rfl, hB⟩ := hrel
    by_cases hlt : k < n
    · have hk : k < xs.length := by rw [HN.out]; exact hlt
      obtain ⟨b, off, rfl, hb, c0⟩ := (hA.next hB).at_ hk
      obtain ⟨b', off', rfl, hb', d0⟩ := (hB'.next hB).at_ hk
      have hi0 : (0 : Int) ≤ (k : Int) := by omega
      have hi1 : (k : Int) < (n : Int) := by omega
      go_wp2_with fail
      go_quiet (fail)
      go_wp2_with fail
      go_roundw
      case rel => exact ⟨k + 1, by omega, by go_num, bel_drewN hB _⟩
      case measure => simp [intOf]; omega
    · obtain rfl : k = n := by omega
      go_wp2_with fail
      go_ret
      exact ⟨rfl, hB⟩
def hasB (xs : List Int) (x : Int) : Bool := decide (x ∈ xs)
set_option maxHeartbeats 4000000 in
theorem hasInt_any (A : Option Addr) (cap : Nat) (xs : List Int) (x : Int) (w : World) (hA : IRow w A xs) (hl : xs.length ≤ 2000000) :
    Calls Try.prog 52 #[.slice A xs.length cap, .int .i64 x] w fun e w' => e = .returned (.bool (hasB xs x)) ∧ Below w.heap.size w w' := by
  generalize hn : xs.length = n at hl ⊢
  have HN := Lib.hid hn
  clear hn
  go_enter Try.func52, Try.ntmps52
  go_wp2_with fail
  go_loopw [5] (fun i wr => ∃ k : Nat, k ≤ n ∧ i = .int .i64 k ∧ x ∉ xs.take k ∧ Below w.heap.size w wr) (fun i _ => (n - intOf i).toNat)
  case atStart => exact ⟨0, by omega, rfl, by simp, Below.refl _ _⟩
  case round =>
    obtain ⟨k, k1, rfl, hnot, hB⟩ := hrel
    have HT := Lib.hid hnot
    clear hnot
    by_cases hlt : k < n
    · have hk : k < xs.length := by rw [HN.out]; exact hlt
      obtain ⟨b, off, rfl, hb, c0⟩ := (hA.next hB).at_ hk
      have hi0 : (0 : Int) ≤ (k : Int) := by omega
      have hi1 : (k : Int) < (n : Int) := by omega
      obtain ⟨y, hy⟩ : ∃ y, xs[k] = y := ⟨_, rfl⟩
      have HY := Lib.hid hy
      rw [hy] at c0
      clear hy
      by_cases hq : y = x
      · have hq' : (y == x) = true := by simpa using hq
        go_wp2_with fail
        go_ret
        exact ⟨ret_bool (by unfold hasB; symm; simp; rw [← hq, ← HY.out]; exact List.getElem_mem hk), hB⟩
      · have hq' : (y == x) = false := by simpa using hq
        go_wp2_with fail
        go_roundw
        case rel => exact ⟨k + 1, by omega, by go_num, by rw [List.take_succ_eq_append_getElem hk, HY.out]; simp; exact ⟨by simpa using HT.out, fun e => hq e.symm⟩, hB⟩
        case measure => simp [intOf]; omega
    · obtain rfl : k = n := by omega
      go_wp2_with fail
      go_ret
      exact ⟨ret_bool (by unfold hasB; symm; have h := HT.out; rw [← HN.out, List.take_length] at h; simpa using h), hB⟩
/-- Numbers ascend. -/
def Asc (xs : List Int) : Prop := ∀ i (h : i + 1 < xs.length), xs[i] < xs[i + 1]
end Go.Proofs.Ytibpaojhjgpdaaa
