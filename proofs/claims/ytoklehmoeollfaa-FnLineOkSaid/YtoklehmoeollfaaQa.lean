/- Contracts of chapter 9: beds, plants. -/
import Derived.Test.YtoklehmoeollfaaZv
import Derived.Test.YtoklehmoeollfaaGNum
import Derived.Test.YtoklehmoeollfaaGPlant
import Derived.Test.YtoklehmoeollfaaQm
import Derived.Test.YtoklehmoeollfaaBi
namespace Go.Proofs.Ytoklehmoeollfaa
open Go Go.ChangeShapes Go.WideShapes Go.ChangeAt Go.RowKit
set_option linter.unusedSimpArgs false
set_option linter.unusedVariables false

theorem iIn9 {n a b : Int} {r : Bool} (w : World) (h_ : inV n a b = r) : Calls Try.prog 42 #[.int .i64 n, .int .i64 a, .int .i64 b] w fun E w' => E = .returned (.bool r) ∧ Below w.heap.size w w' := (iIn7_is w h_).mono fun _ _ h => ⟨h.1, h.2 ▸ Below.refl _ _⟩
theorem sIn9 {n a b : Int} {r : Bool} (w : World) (h_ : inV n a b = r) : Calls Try.prog 39 #[.int .i64 n, .int .i64 a, .int .i64 b] w fun E w' => E = .returned (.bool r) ∧ Below w.heap.size w w' := (sIn7_is w h_).mono fun _ _ h => ⟨h.1, h.2 ▸ Below.refl _ _⟩
set_option maxHeartbeats 4000000 in
theorem sHas_is (A : Option Addr) (cap : Nat) (xs : List Int) (x : Int) {n : Nat} {r : Bool} (w : World) (hn : xs.length = n) (h : SRow encNum w A xs) (hl : n ≤ 2000000) (hr : hsI xs x = r) :
    Calls Try.prog 52 #[.slice A n cap, .int .i64 x] w fun E w' => E = .returned (.bool r) ∧ Below w.heap.size w w' := by
  subst hr
  have HN := Lib.hid hn
  clear hn
  go_enter Try.func52, Try.ntmps52
  go_wp2_with fail
  go_loopw [5] (fun v wr => ∃ k : Nat, v = .int .i64 k ∧ k ≤ n ∧ Hid (hsI (xs.take k) x = false) ∧ Below w.heap.size w wr) (fun v _ => (n - intOf v).toNat)
  case atStart => exact ⟨0, rfl, by omega, (by show _ = _; rfl), Below.refl _ _⟩
  case round =>
    obtain ⟨k, rfl, k1, HA, hB⟩ := hrel
    by_cases hlt : k < n
    · have hk : k < xs.length := by rw [HN.out]; exact hlt
      have hki : (k : Int) < (n : Int) := by omega
      obtain ⟨b, off, rfl, hb, c0⟩ := rowNum (h.next hB) hk
      have HS := Lib.hid (hsI_step hk x)
      have HM : Hid (xs[k] = x → hsI xs x = true) := Lib.hid (fun e => hsI_iff.2 (e ▸ List.getElem_mem hk))
      generalize xs[k] = q at c0 HS HM
      by_cases hq : q = x
      · have HT := Lib.hid (HM.out hq)
        have hqb : (q == x) = true := by simpa using hq
        clear hq HM
        go_wp2_with fail
        go_ret
        exact ⟨ret_bool HT.out.symm, hB⟩
      · have hqb : (q == x) = false := by simpa using hq
        have HT : Hid (hsI (xs.take (k + 1)) x = false) := Lib.hid (by rw [HS.out, HA.out, hqb]; rfl)
        clear HM HS
        go_wp2_with fail
        go_roundw
        case rel => exact ⟨k + 1, by go_num, by omega, HT, hB⟩
        case measure => simp [intOf]; omega
    · have hki : ¬ (k : Int) < (n : Int) := by omega
      have HX : Hid (hsI xs x = false) := Lib.hid (by have := HA.out; rwa [List.take_of_length_le (by rw [HN.out]; omega)] at this)
      clear HA
      go_wp2_with fail
      go_ret
      exact ⟨ret_bool HX.out.symm, hB⟩
end Go.Proofs.Ytoklehmoeollfaa
