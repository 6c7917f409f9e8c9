/- Contracts of chapter 7: hours. -/
import Derived.Test.YtfgaggdiepielabZv
import Derived.Test.YtfgaggdiepielabZn
import Derived.Test.YtfgaggdiepielabGHour
import Derived.Test.YtfgaggdiepielabGNum
namespace Go.Proofs.Ytfgaggdiepielab
open Go Go.ChangeShapes Go.WideShapes Go.ChangeAt Go.RowKit
set_option linter.unusedSimpArgs false
set_option linter.unusedVariables false

set_option maxHeartbeats 4000000 in
theorem iHk_any (g d : Int) (w : World) :
    Calls Try.prog 40 #[.agg #[.int .i64 g, .int .i64 d]] w fun E w' => E = .returned (.bool (hrV (g, d))) ∧ Below w.heap.size w w' := by
  go_enter Try.func40, Try.ntmps40
  go_wp2_with (go_at_call 54; refine (iIn7 _ _ _ _).mono ?_; rintro E w' ⟨rfl, rfl⟩)
  all_goals go_ret
  all_goals exact ⟨ret_bool (by first | (simp_all [hrV, inV]; done) | (rw [Bool.eq_iff_iff]; simp_all [hrV, inV]; omega)), bel1 _ _⟩
theorem iHk_is {h : Int × Int} {r : Bool} (w : World) (h_ : hrV h = r) : Calls Try.prog 40 #[.agg #[.int .i64 h.1, .int .i64 h.2]] w fun E w' => E = .returned (.bool r) ∧ Below w.heap.size w w' := by subst h_; exact iHk_any h.1 h.2 w
set_option maxHeartbeats 4000000 in
theorem iAllHour7 (A : Option Addr) (cap : Nat) (xs : List VHour) {r : Bool} {n : Nat} (w : World) (hn : xs.length = n) (h : SRow encHour w A xs) (hl : n ≤ 2000000) (hr : xs.all hrV = r) :
    Calls Try.prog 39 #[.slice A n cap, .func (.func 40) #[] #[]] w fun E w' => E = .returned (.bool r) ∧ Below w.heap.size w w' := by
  subst hr
  have HN := Lib.hid hn
  clear hn
  go_enter Try.func39, Try.ntmps39
  go_wp2_with fail
  go_loopw [9] (fun v wr => ∃ k : Nat, v = .int .i64 k ∧ k ≤ n ∧ Hid ((xs.take k).all hrV = true) ∧ Below w.heap.size w wr) (fun v _ => (n - intOf v).toNat)
  case atStart => exact ⟨0, rfl, by omega, (by show _ = _; rfl), Below.refl _ _⟩
  case round =>
    obtain ⟨k, rfl, k1, HA, hB⟩ := hrel
    by_cases hlt : k < n
    · have hk : k < xs.length := by rw [HN.out]; exact hlt
      have hki : (k : Int) < (n : Int) := by omega
      obtain ⟨b, off, rfl, hb, c0, c1⟩ := rowHour (h.next hB) hk
      obtain ⟨v, hv⟩ : ∃ v, hrV xs[k] = v := ⟨_, rfl⟩
      have HV := Lib.hid hv
      clear hv
      go_wp2_with fail
      refine (iHk_is _ HV.out).mono ?_; rintro E w1 ⟨rfl, hw1⟩
      have hB1 := bel_next (hB.alloc hB.size _) hw1
      cases v
      · go_wp2_with fail
        go_ret
        exact ⟨ret_bool (al7_no hk HV.out).symm, hB1⟩
      · go_wp2_with fail
        go_roundw
        case rel => exact ⟨k + 1, by go_num, by omega, Lib.hid (al7_step hk HA.out HV.out), hB1⟩
        case measure => simp [intOf]; omega
    · have hki : ¬ (k : Int) < (n : Int) := by omega
      go_wp2_with fail
      go_ret
      exact ⟨ret_bool (al7_yes HN.out (by omega) HA.out).symm, hB⟩
set_option maxHeartbeats 4000000 in
theorem iHv_is (A : Option Addr) (cap : Nat) (xs : List VHour) {n : Nat} {r : Bool} (w : World) (hn : xs.length = n) (h : SRow encHour w A xs) (hl : n ≤ 2000000) (hr : hrB xs = r) :
    Calls Try.prog 12 #[.slice A n cap] w fun E w' => E = .returned (.bool r) ∧ Below w.heap.size w w' := by
  subst hr
  by_cases h6 : n ≤ 10
  · have h6i : (n : Int) ≤ 10 := by omega
    obtain ⟨v, hv⟩ : ∃ v, xs.all hrV = v := ⟨_, rfl⟩
    have e : hrB xs = v := by unfold hrB; rw [hn, hv]; simp [h6]
    have HE := Lib.hid e
    have HV := Lib.hid hv
    have HN := Lib.hid hn
    clear e hv hn
    go_enter Try.func12, Try.ntmps12
    go_wp2_with fail
    refine (iAllHour7 A cap xs _ HN.out h hl HV.out).mono ?_; rintro E w1 ⟨rfl, hw1⟩
    go_wp2
    go_ret
    exact ⟨ret_bool HE.out.symm, hw1⟩
  · have h6i : ¬ (n : Int) ≤ 10 := by omega
    have e : hrB xs = false := by unfold hrB; rw [hn]; simp [h6]
    rw [e]
    clear e hn h
    go_enter Try.func12, Try.ntmps12
    go_wp2
    go_ret
    exact ⟨ret_bool rfl, Below.refl _ _⟩
set_option maxHeartbeats 4000000 in
theorem sHv_is (A : Option Addr) (cap : Nat) (xs : List VHour) {n : Nat} {r : Bool} (w : World) (hn : xs.length = n) (h : SRow encHour w A xs) (hl : n ≤ 2000000) (hr : hrB xs = r) :
    Calls Try.prog 13 #[.slice A n cap] w fun E w' => E = .returned (.bool r) ∧ Below w.heap.size w w' := by
  subst hr
  have HN := Lib.hid hn
  clear hn
  go_enter Try.func13, Try.ntmps13
  go_wp2_with fail
  go_loopw [3] (fun v wr => ∃ k : Nat, v = .int .i64 k ∧ k ≤ n ∧ Hid ((xs.take k).all hrV = true) ∧ Below w.heap.size w wr) (fun v _ => (n - intOf v).toNat)
  case atStart => exact ⟨0, rfl, by omega, (by show _ = _; rfl), Below.refl _ _⟩
  case round =>
    obtain ⟨k, rfl, k1, HA, hB⟩ := hrel
    by_cases hlt : k < n
    · have hk : k < xs.length := by rw [HN.out]; exact hlt
      have hki : (k : Int) < (n : Int) := by omega
      obtain ⟨b, off, rfl, hb, c0, c1⟩ := rowHour (h.next hB) hk
      have hv0 : hrV xs[k] = hrV (xs[k].1, xs[k].2) := rfl
      generalize xs[k].1 = g at c0 hv0
      generalize xs[k].2 = d at c1 hv0
      have HV := Lib.hid hv0
      clear hv0
      cases hg : inV g 0 20
      · have HG := Lib.hid hg
        have HF : Hid (hrV xs[k] = false) := Lib.hid (by rw [HV.out]; unfold hrV; unfold inV at hg; simp at hg ⊢; omega)
        clear hg
        go_wp2_with fail
        refine (sIn7_is _ HG.out).mono ?_; rintro E w' ⟨rfl, rfl⟩
        go_wp2
        go_ret
        exact ⟨ret_bool (by unfold hrB; rw [al7_no hk HF.out]; simp), hB⟩
      · cases hd : inV d 0 20
        · have HF : Hid (hrV xs[k] = false) := Lib.hid (by rw [HV.out]; unfold hrV; unfold inV at hg hd; simp at hg hd ⊢; omega)
          have HG := Lib.hid hg
          have HD_ := Lib.hid hd
          clear hg hd
          go_wp2_with fail
          refine (sIn7_is _ HG.out).mono ?_; rintro E w' ⟨rfl, rfl⟩
          go_wp2_with fail
          refine (sIn7_is _ HD_.out).mono ?_; rintro E w' ⟨rfl, rfl⟩
          go_wp2
          go_ret
          exact ⟨ret_bool (by unfold hrB; rw [al7_no hk HF.out]; simp), hB⟩
        · have HT : Hid (hrV xs[k] = true) := Lib.hid (by rw [HV.out]; unfold hrV; unfold inV at hg hd; simp at hg hd ⊢; omega)
          have HG := Lib.hid hg
          have HD_ := Lib.hid hd
          clear hg hd
          go_wp2_with fail
          refine (sIn7_is _ HG.out).mono ?_; rintro E w' ⟨rfl, rfl⟩
          go_wp2_with fail
          refine (sIn7_is _ HD_.out).mono ?_; rintro E w' ⟨rfl, rfl⟩
          go_wp2_with fail
          go_roundw
          case rel => exact ⟨k + 1, by go_num, by omega, Lib.hid (al7_step hk HA.out HT.out), hB⟩
          case measure => simp [intOf]; omega
    · have hki : ¬ (k : Int) < (n : Int) := by omega
      have HX : Hid (xs.all hrV = true) := al7_yes HN.out (by omega) HA.out
      clear HA
      go_wp2_with fail
      go_ret
      exact ⟨ret_bool (by unfold hrB; rw [HX.out, HN.out]; rw [Bool.eq_iff_iff]; simp; try omega), hB⟩
def NumsRet8 (l : List Int) (w : World) (e : Ending) (w' : World) : Prop := ∃ (A : Option Addr) (cap : Nat), e = .returned (.slice A l.length cap) ∧ SOwn encNum w' w.heap.size 3 A cap l ∧ Below w.heap.size w w'
theorem ret_slice8 {A : Option Addr} {n m c : Nat} (h : n = m) : Ending.returned (.slice A n c) = .returned (.slice A m c) := by rw [h]
theorem stB_false {xs : List (Int × Int)} {holds has : Int} (h : stB xs holds has = false) : hrB xs = false ∨ (hrB xs = true ∧ inV holds 0 200 = false) ∨ (hrB xs = true ∧ inV holds 0 200 = true ∧ inV has 0 holds = false) := by
  unfold stB at h
  cases h1 : hrB xs
  · exact .inl rfl
  · right
    rw [h1] at h
    cases h2 : inV holds 0 200
    · exact .inl ⟨rfl, rfl⟩
    · right; refine ⟨rfl, rfl, ?_⟩
      unfold inV at h2 ⊢; rw [h2] at h; simpa using h
theorem stB_true {xs : List (Int × Int)} {holds has : Int} (h : stB xs holds has = true) : hrB xs = true ∧ inV holds 0 200 = true ∧ inV has 0 holds = true := by
  have := stB_iff.1 h
  exact ⟨this.1, by unfold inV; simp; omega, by unfold inV; simp; omega⟩
end Go.Proofs.Ytfgaggdiepielab
