/- Contracts of chapter 5: lists of blocks and of rays. -/
import Derived.Test.YtigndpajpofofaaVs
import Derived.Test.YtigndpajpofofaaGBlock
import Derived.Test.YtigndpajpofofaaGRay
namespace Go.Proofs.Ytigndpajpofofaa
open Go Go.ChangeShapes Go.WideShapes Go.ChangeAt Go.RowKit
set_option linter.unusedSimpArgs false
set_option linter.unusedVariables false

theorem all_no {α : Type} {p : α → Bool} {xs : List α} {k : Nat} (hk : k < xs.length) (h : p xs[k] = false) : xs.all p = false := by
  rw [List.all_eq_false]; exact ⟨xs[k], List.getElem_mem hk, by simp [h]⟩
theorem all_yes {α : Type} {p : α → Bool} {xs : List α} {k n : Nat} (hn : xs.length = n) (hk : n ≤ k) (h : (xs.take k).all p = true) : xs.all p = true := by
  rwa [List.take_of_length_le (by omega)] at h
theorem all_step {α : Type} {p : α → Bool} {xs : List α} {k : Nat} (hk : k < xs.length) (ha : (xs.take k).all p = true) (h : p xs[k] = true) : (xs.take (k + 1)).all p = true := by
  rw [List.take_succ_eq_append_getElem hk, List.all_append, ha]; simp [h]
def blV (v : VBlock) : Bool := blB v.1 v.2.1 v.2.2.1 v.2.2.2.1 v.2.2.2.2
def ryV (v : VRay) : Bool := ryB v.1 v.2.1 v.2.2
def bsB (xs : List VBlock) : Bool := decide (xs.length ≤ 5) && xs.all blV
set_option maxHeartbeats 4000000 in
theorem iAllBlock (A : Option Addr) (cap : Nat) (xs : List VBlock) {r : Bool} {n : Nat} (w : World) (hn : xs.length = n) (h : SRow encBlock w A xs) (hl : n ≤ 2000000) (hr : xs.all blV = r) :
    Calls Try.prog 58 #[.slice A n cap, .func (.func 59) #[] #[]] w fun E w' => E = .returned (.bool r) ∧ Below w.heap.size w w' := by
  subst hr
  have HN := Lib.hid hn
  clear hn
  go_enter Try.func58, Try.ntmps58
  go_wp2_with fail
  go_loopw [9] (fun v wr => ∃ k : Nat, v = .int .i64 k ∧ k ≤ n ∧ Hid ((xs.take k).all blV = true) ∧ Below w.heap.size w wr) (fun v _ => (n - intOf v).toNat)
  case atStart => exact ⟨0, rfl, by omega, (by show _ = _; rfl), Below.refl _ _⟩
  case round =>
    obtain ⟨k, rfl, k1, HA, hB⟩ := hrel
    by_cases hlt : k < n
    · have hk : k < xs.length := by rw [HN.out]; exact hlt
      have hki : (k : Int) < (n : Int) := by omega
      obtain ⟨b, off, rfl, hb, c0, c1, c2, c3, c4⟩ := rowBlock (h.next hB) hk
      obtain ⟨v, hv⟩ : ∃ v, blV xs[k] = v := ⟨_, rfl⟩
      have HV := Lib.hid hv
      clear hv
      go_wp2_with fail
      refine (iBV_is _ HV.out).mono ?_; rintro e w1 ⟨rfl, hw1⟩
      have hB1 := bel_next (hB.alloc hB.size _) hw1
      cases v
      · go_wp2_with fail
        go_ret
        exact ⟨ret_bool (all_no hk HV.out).symm, hB1⟩
      · go_wp2_with fail
        go_roundw
        case rel => exact ⟨k + 1, by go_num, by omega, Lib.hid (all_step hk HA.out HV.out), hB1⟩
        case measure => simp [intOf]; omega
    · have hki : ¬ (k : Int) < (n : Int) := by omega
      go_wp2_with fail
      go_ret
      exact ⟨ret_bool (all_yes HN.out (by omega) HA.out).symm, hB⟩
set_option maxHeartbeats 4000000 in
theorem iBs_any (A : Option Addr) (cap : Nat) (xs : List VBlock) {n : Nat} (w : World) (hn : xs.length = n) (h : SRow encBlock w A xs) (hl : n ≤ 2000000) :
    Calls Try.prog 34 #[.slice A n cap] w fun E w' => E = .returned (.bool (bsB xs)) ∧ Below w.heap.size w w' := by
  by_cases h5 : n ≤ 5
  · have h5i : (n : Int) ≤ 5 := by omega
    obtain ⟨v, hv⟩ : ∃ v, xs.all blV = v := ⟨_, rfl⟩
    have e : bsB xs = v := by unfold bsB; rw [hn, hv]; simp [h5]
    have HE := Lib.hid e
    have HV := Lib.hid hv
    have HN := Lib.hid hn
    clear e hv hn
    go_enter Try.func34, Try.ntmps34
    go_wp2_with fail
    refine (iAllBlock A cap xs _ HN.out h hl HV.out).mono ?_; rintro e w1 ⟨rfl, hw1⟩
    go_wp2
    go_ret
    exact ⟨ret_bool HE.out.symm, hw1⟩
  · have h5i : ¬ (n : Int) ≤ 5 := by omega
    have e : bsB xs = false := by unfold bsB; rw [hn]; simp [h5]
    rw [e]
    clear e hn h
    go_enter Try.func34, Try.ntmps34
    go_wp2
    go_ret
    exact ⟨ret_bool rfl, Below.refl _ _⟩
set_option maxHeartbeats 4000000 in
theorem sBs_any (A : Option Addr) (cap : Nat) (xs : List VBlock) {n : Nat} (w : World) (hn : xs.length = n) (h : SRow encBlock w A xs) (hl : n ≤ 2000000) :
    Calls Try.prog 21 #[.slice A n cap] w fun E w' => E = .returned (.bool (bsB xs)) ∧ Below w.heap.size w w' := by
  have HN := Lib.hid hn
  clear hn
  go_enter Try.func21, Try.ntmps21
  go_wp2_with fail
  go_loopw [3] (fun v wr => ∃ k : Nat, v = .int .i64 k ∧ k ≤ n ∧ Hid ((xs.take k).all blV = true) ∧ Below w.heap.size w wr) (fun v _ => (n - intOf v).toNat)
  case atStart => exact ⟨0, rfl, by omega, (by show _ = _; rfl), Below.refl _ _⟩
  case round =>
    obtain ⟨k, rfl, k1, HA, hB⟩ := hrel
    by_cases hlt : k < n
    · have hk : k < xs.length := by rw [HN.out]; exact hlt
      have hki : (k : Int) < (n : Int) := by omega
      obtain ⟨b, off, rfl, hb, c0, c1, c2, c3, c4⟩ := rowBlock (h.next hB) hk
      obtain ⟨v, hv⟩ : ∃ v, blV xs[k] = v := ⟨_, rfl⟩
      have HV := Lib.hid hv
      clear hv
      go_wp2_with fail
      refine (sBV_is _ HV.out).mono ?_; rintro e w1 ⟨rfl, hw1⟩
      have hB1 := bel_next hB hw1
      cases v
      · go_wp2_with fail
        go_ret
        exact ⟨ret_bool (by unfold bsB; rw [all_no hk HV.out]; simp), hB1⟩
      · go_wp2_with fail
        go_roundw
        case rel => exact ⟨k + 1, by go_num, by omega, Lib.hid (all_step hk HA.out HV.out), hB1⟩
        case measure => simp [intOf]; omega
    · have hki : ¬ (k : Int) < (n : Int) := by omega
      have HX : Hid (xs.all blV = true) := all_yes HN.out (by omega) HA.out
      clear HA
      go_wp2_with fail
      go_ret
      exact ⟨ret_bool (by unfold bsB; rw [HX.out, HN.out]; rw [Bool.eq_iff_iff]; simp; try omega), hB⟩
theorem iBs_is (A : Option Addr) (cap : Nat) (xs : List VBlock) {r : Bool} {n : Nat} (w : World) (hn : xs.length = n) (h : SRow encBlock w A xs) (hl : n ≤ 2000000) (hr : bsB xs = r) : Calls Try.prog 34 #[.slice A n cap] w fun E w' => E = .returned (.bool r) ∧ Below w.heap.size w w' := by subst hr; exact iBs_any A cap xs w hn h hl
theorem sBs_is (A : Option Addr) (cap : Nat) (xs : List VBlock) {r : Bool} {n : Nat} (w : World) (hn : xs.length = n) (h : SRow encBlock w A xs) (hl : n ≤ 2000000) (hr : bsB xs = r) : Calls Try.prog 21 #[.slice A n cap] w fun E w' => E = .returned (.bool r) ∧ Below w.heap.size w w' := by subst hr; exact sBs_any A cap xs w hn h hl
end Go.Proofs.Ytigndpajpofofaa
