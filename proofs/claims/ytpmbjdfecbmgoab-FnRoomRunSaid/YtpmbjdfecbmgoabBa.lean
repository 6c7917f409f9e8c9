/- Contracts of chapter 8: bands, lights. -/
import Derived.Test.YtpmbjdfecbmgoabZv
import Derived.Test.YtpmbjdfecbmgoabGNum
import Derived.Test.YtpmbjdfecbmgoabBm
namespace Go.Proofs.Ytpmbjdfecbmgoab
open Go Go.ChangeShapes Go.WideShapes Go.ChangeAt Go.RowKit
set_option linter.unusedSimpArgs false
set_option linter.unusedVariables false

set_option maxHeartbeats 4000000 in
theorem iLv8_any (x : Int) (w : World) :
    Calls Try.prog 33 #[.int .i64 x] w fun E w' => E = .returned (.bool (ltV x)) ∧ w = w' := by
  go_enter Try.func33, Try.ntmps33
  go_wp2_with (go_at_call 46; refine (iIn7 _ _ _ _).mono ?_; rintro E w' ⟨rfl, rfl⟩)
  go_ret
  exact ⟨ret_bool rfl, rfl⟩
theorem iLv8_is {x : Int} {r : Bool} (w : World) (h_ : ltV x = r) : Calls Try.prog 33 #[.int .i64 x] w fun E w' => E = .returned (.bool r) ∧ w = w' := by subst h_; exact iLv8_any x w
theorem iLv8_b {x : Int} {r : Bool} (w : World) (h_ : ltV x = r) : Calls Try.prog 33 #[.int .i64 x] w fun E w' => E = .returned (.bool r) ∧ Below w.heap.size w w' := by subst h_; exact (iLv8_any x w).mono fun _ _ h => ⟨h.1, h.2 ▸ Below.refl _ _⟩
set_option maxHeartbeats 4000000 in
theorem iAllNum8 (A : Option Addr) (cap : Nat) (xs : List Int) {r : Bool} {n : Nat} (w : World) (hn : xs.length = n) (h : SRow encNum w A xs) (hl : n ≤ 2000000) (hr : xs.all ltV = r) :
    Calls Try.prog 48 #[.slice A n cap, .func (.func 33) #[] #[]] w fun E w' => E = .returned (.bool r) ∧ Below w.heap.size w w' := by
  subst hr
  have HN := Lib.hid hn
  clear hn
  go_enter Try.func48, Try.ntmps48
  go_wp2_with fail
  go_loopw [9] (fun v wr => ∃ k : Nat, v = .int .i64 k ∧ k ≤ n ∧ Hid ((xs.take k).all ltV = true) ∧ Below w.heap.size w wr) (fun v _ => (n - intOf v).toNat)
  case atStart => exact ⟨0, rfl, by omega, (by show _ = _; rfl), Below.refl _ _⟩
  case round =>
    obtain ⟨k, rfl, k1, HA, hB⟩ := hrel
    by_cases hlt : k < n
    · have hk : k < xs.length := by rw [HN.out]; exact hlt
      have hki : (k : Int) < (n : Int) := by omega
      obtain ⟨b, off, rfl, hb, c0⟩ := rowNum (h.next hB) hk
      obtain ⟨v, hv⟩ : ∃ v, ltV xs[k] = v := ⟨_, rfl⟩
      have HV := Lib.hid hv
      clear hv
      go_wp2_with fail
      refine (iLv8_b _ HV.out).mono ?_; rintro E w1 ⟨rfl, hw1⟩
      have hB1 := bel_next hB hw1
      cases v
      · go_wp2_with fail
        go_ret
        exact ⟨ret_bool (al7_no hk HV.out).symm, hB1⟩
      · go_wp2_with fail
        go_roundw
        case rel => exact ⟨k + 1, by go_num, by omega, Lib.hid (al7_step hk HA.out HV.out), hB1⟩
        case measure => simp [intOf]; omega
    · have hki : ¬ (k : Int) < (n : Int) := by omega
      go_wp2_with fail
      go_ret
      exact ⟨ret_bool (al7_yes HN.out (by omega) HA.out).symm, hB⟩
set_option maxHeartbeats 4000000 in
theorem iLt_is (A : Option Addr) (cap : Nat) (xs : List Int) {n : Nat} {r : Bool} (w : World) (hn : xs.length = n) (h : SRow encNum w A xs) (hl : n ≤ 2000000) (hr : ltB xs = r) :
    Calls Try.prog 38 #[.slice A n cap] w fun E w' => E = .returned (.bool r) ∧ Below w.heap.size w w' := by
  subst hr
  by_cases h6 : n ≤ 60
  · have h6i : (n : Int) ≤ 60 := by omega
    obtain ⟨v, hv⟩ : ∃ v, xs.all ltV = v := ⟨_, rfl⟩
    have e : ltB xs = v := by unfold ltB; rw [hn, hv]; simp [h6]
    have HE := Lib.hid e
    have HV := Lib.hid hv
    have HN := Lib.hid hn
    clear e hv hn
    go_enter Try.func38, Try.ntmps38
    go_wp2_with fail
    refine (iAllNum8 A cap xs _ HN.out h hl HV.out).mono ?_; rintro E w1 ⟨rfl, hw1⟩
    go_wp2
    go_ret
    exact ⟨ret_bool HE.out.symm, hw1⟩
  · have h6i : ¬ (n : Int) ≤ 60 := by omega
    have e : ltB xs = false := by unfold ltB; rw [hn]; simp [h6]
    rw [e]
    clear e hn h
    go_enter Try.func38, Try.ntmps38
    go_wp2
    go_ret
    exact ⟨ret_bool rfl, Below.refl _ _⟩
set_option maxHeartbeats 4000000 in
theorem sLt_is (A : Option Addr) (cap : Nat) (xs : List Int) {n : Nat} {r : Bool} (w : World) (hn : xs.length = n) (h : SRow encNum w A xs) (hl : n ≤ 2000000) (hr : ltB xs = r) :
    Calls Try.prog 39 #[.slice A n cap] w fun E w' => E = .returned (.bool r) ∧ Below w.heap.size w w' := by
  subst hr
  have HN := Lib.hid hn
  clear hn
  go_enter Try.func39, Try.ntmps39
  go_wp2_with fail
  go_loopw [3] (fun v wr => ∃ k : Nat, v = .int .i64 k ∧ k ≤ n ∧ Hid ((xs.take k).all ltV = true) ∧ Below w.heap.size w wr) (fun v _ => (n - intOf v).toNat)
  case atStart => exact ⟨0, rfl, by omega, (by show _ = _; rfl), Below.refl _ _⟩
  case round =>
    obtain ⟨k, rfl, k1, HA, hB⟩ := hrel
    by_cases hlt : k < n
    · have hk : k < xs.length := by rw [HN.out]; exact hlt
      have hki : (k : Int) < (n : Int) := by omega
      obtain ⟨b, off, rfl, hb, c0⟩ := rowNum (h.next hB) hk
      obtain ⟨v, hv⟩ : ∃ v, ltV xs[k] = v := ⟨_, rfl⟩
      have HV : Hid (inV xs[k] 0 100 = v) := hv
      have HV2 : Hid (ltV xs[k] = v) := hv
      clear hv
      go_wp2_with fail
      refine (sIn7_is _ HV.out).mono ?_; rintro E w' ⟨rfl, rfl⟩
      cases v
      · go_wp2_with fail
        go_ret
        exact ⟨ret_bool (by unfold ltB; rw [al7_no hk HV2.out]; simp), hB⟩
      · go_wp2_with fail
        go_roundw
        case rel => exact ⟨k + 1, by go_num, by omega, Lib.hid (al7_step hk HA.out HV2.out), hB⟩
        case measure => simp [intOf]; omega
    · have hki : ¬ (k : Int) < (n : Int) := by omega
      have HX : Hid (xs.all ltV = true) := al7_yes HN.out (by omega) HA.out
      clear HA
      go_wp2_with fail
      go_ret
      exact ⟨ret_bool (by unfold ltB; rw [HX.out, HN.out]; rw [Bool.eq_iff_iff]; simp; try omega), hB⟩
def stI (s : Bool) : Int := if s = true then 1 else 0
end Go.Proofs.Ytpmbjdfecbmgoab
