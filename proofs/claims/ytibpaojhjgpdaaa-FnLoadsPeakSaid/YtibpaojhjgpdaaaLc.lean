/- Contracts of chapter 7: the least peak of loads, on both sides. -/
import Derived.Test.YtibpaojhjgpdaaaLb
namespace Go.Proofs.Ytibpaojhjgpdaaa
open Go Go.ChangeShapes Go.WideShapes Go.ChangeAt Go.RowKit
set_option linter.unusedSimpArgs false
set_option linter.unusedVariables false

set_option maxRecDepth 100000 in
set_option maxHeartbeats 4000000 in
theorem iLl9_is (A : Option Addr) (cap : Nat) (xs : List VLoad) {n : Nat} {r : Int} (w : World) (hn : xs.length = n) (h : SRow encLoad w A xs) (hl : n ≤ 2000000) (hr : lbI xs = r) :
    Calls Try.prog 33 #[.slice A n cap] w fun E w' => E = .returned (.int .i64 r) ∧ Below w.heap.size w w' := by
  cases hv : ldB xs
  · obtain rfl : r = -1 := by rw [← hr]; exact lbI_no hv
    clear hr
    have HN := Lib.hid hn
    have HV := Lib.hid hv
    clear hn hv
    go_enter Try.func33, Try.ntmps33
    go_wp2_with fail
    refine (iLv_is A cap xs _ HN.out h hl HV.out).mono ?_; rintro E w1 ⟨rfl, hB1⟩
    go_wp2
    go_ret
    exact ⟨rfl, hB1⟩
  · have hn7 : n ≤ 7 := by have := (ldB_iff.1 hv).1; omega
    have HW : Hid (∀ m : Int, lwB xs m = true ↔ 1 ≤ m ∧ m ≤ 7 ∧ r ≤ m) := Lib.hid (fun m => by rw [← hr]; exact lwB_iff hv)
    have hP : Hid (0 < n → 1 ≤ r) := Lib.hid (fun h0 => by rw [← hr]; exact lbI_pos hv (by omega))
    have hrn : r ≤ n := by rw [← hr, ← hn]; exact lbI_len hv
    have hr0 : 0 ≤ r := by rw [← hr]; exact lbI_nn hv
    have HS0 : Hid (((1 : Nat) : Int) ≤ r ∨ n = 0) := Lib.hid (by have := hP.out; omega)
    clear hr
    have HN := Lib.hid hn
    have HV := Lib.hid hv
    clear hn hv
    go_enter Try.func33, Try.ntmps33
    go_wp2_with fail
    refine (iLv_is A cap xs _ HN.out h hl HV.out).mono ?_; rintro E w1 ⟨rfl, hB1⟩
    go_wp2_with fail
    go_loopw [3] (fun v wr => ∃ m : Nat, v = .int .i64 m ∧ 1 ≤ m ∧ m ≤ n + 1 ∧ (m ≤ n ∨ n = 0) ∧ Hid ((m : Int) ≤ r ∨ n = 0) ∧ Below w.heap.size w wr) (fun v _ => (n + 1 - intOf v).toNat)
    case atStart => exact ⟨1, rfl, by omega, by omega, by omega, HS0, hB1⟩
    case round =>
      clear hB1
      obtain ⟨m, rfl, m1, m2, m3, HM, hB⟩ := hrel
      by_cases hlt : m < n
      · have hmi : (m : Int) < (n : Int) := by omega
        obtain ⟨b9, hb9⟩ : ∃ b9, lwB xs (m : Int) = b9 := ⟨_, rfl⟩
        obtain ⟨l9, hl9⟩ : ∃ l9, lwL xs (m : Int) = l9 := ⟨_, rfl⟩
        have HB9 := Lib.hid hb9
        have HL9 := Lib.hid hl9
        clear hb9 hl9
        go_wp2_with fail
        refine (iLw9_is A cap xs _ HN.out (h.next hB) hl HL9.out HB9.out).mono ?_; rintro E w2 ⟨V, cv, rfl, hO, hw2⟩
        have hB2 := bel_next hB hw2
        cases b9
        · have HX : Hid (((m + 1 : Nat) : Int) ≤ r ∨ n = 0) := Lib.hid (by
              have h1 := HW.out m
              rw [HB9.out] at h1
              have h2 : ¬ (1 ≤ (m : Int) ∧ (m : Int) ≤ 7 ∧ r ≤ (m : Int)) := fun k => (by have := h1.2 k; cases this)
              omega)
          go_wp2_with fail
          go_roundw
          case rel => exact ⟨m + 1, by go_num, by omega, by omega, by omega, HX, hB2⟩
          case measure => simp [intOf]; omega
        · have HX : Hid ((m : Int) = r) := Lib.hid (by have h1 := (HW.out m).1 HB9.out; have h2 := HM.out; omega)
          go_wp2
          go_ret
          exact ⟨ret_int HX.out, hB2⟩
      · have hmi : ¬ (m : Int) < (n : Int) := by omega
        have HX : Hid ((n : Int) = r) := Lib.hid (by have := HM.out; omega)
        go_wp2
        go_ret
        exact ⟨ret_int HX.out, hB⟩
set_option maxRecDepth 100000 in
set_option maxHeartbeats 4000000 in
theorem sLl9_is (A : Option Addr) (cap : Nat) (xs : List VLoad) {n : Nat} {r : Int} (w : World) (hn : xs.length = n) (h : SRow encLoad w A xs) (hl : n ≤ 2000000) (hr : lbI xs = r) :
    Calls Try.prog 32 #[.slice A n cap] w fun E w' => E = .returned (.int .i64 r) ∧ Below w.heap.size w w' := by
  have HR := Lib.hid hr
  clear hr
  cases hv : ldB xs
  · have HS : Hid (ldB xs = true → ((1 : Nat) : Int) ≤ r) := Lib.hid (fun h9 => by rw [hv] at h9; cases h9)
    have HN := Lib.hid hn
    have HV := Lib.hid hv
    clear hn hv
    go_enter Try.func32, Try.ntmps32
    go_wp2_with fail
    refine (sLv_is A cap xs _ HN.out h hl HV.out).mono ?_; rintro E w1 ⟨rfl, hB1⟩
    go_wp2_with fail
    go_loopw [3] (fun v wr => ∃ m : Nat, v = .int .i64 m ∧ 1 ≤ m ∧ m ≤ 8 ∧ Hid (ldB xs = true → (m : Int) ≤ r) ∧ Below w.heap.size w wr) (fun v _ => (8 - intOf v).toNat)
    case atStart => exact ⟨1, rfl, by omega, by omega, HS, hB1⟩
    case round =>
      clear hB1
      obtain ⟨m, rfl, m1, m2, HM, hB⟩ := hrel
      by_cases hlt : m ≤ 7
      · have hmi : (m : Int) ≤ 7 := by omega
        obtain ⟨b9, hb9⟩ : ∃ b9, lwB xs (m : Int) = b9 := ⟨_, rfl⟩
        obtain ⟨l9, hl9⟩ : ∃ l9, lwL xs (m : Int) = l9 := ⟨_, rfl⟩
        have HB9 := Lib.hid hb9
        have HL9 := Lib.hid hl9
        clear hb9 hl9
        go_wp2_with fail
        refine (sLw9_is A cap xs _ HN.out (h.next hB) hl HL9.out HB9.out).mono ?_; rintro E w2 ⟨V, cv, rfl, hO, hw2⟩
        have hB2 := bel_next hB hw2
        cases b9
        · have HX : Hid (ldB xs = true → ((m + 1 : Nat) : Int) ≤ r) := Lib.hid (fun hv9 => by
              have h1 := lwB_iff (m := (m : Int)) hv9
              rw [HB9.out, HR.out] at h1
              have h2 : ¬ (1 ≤ (m : Int) ∧ (m : Int) ≤ 7 ∧ r ≤ (m : Int)) := fun k => (by have := h1.2 k; cases this)
              omega)
          go_wp2_with fail
          go_roundw
          case rel => exact ⟨m + 1, by go_num, by omega, by omega, HX, hB2⟩
          case measure => simp [intOf]; omega
        · have HX : Hid ((m : Int) = r) := Lib.hid (by
              cases hv9 : ldB xs
              · have := lwB_no1 (m := (m : Int)) hv9; rw [HB9.out] at this; cases this
              · have h1 := (lwB_iff hv9).1 HB9.out; rw [HR.out] at h1; have h2 := HM.out hv9; omega)
          go_wp2
          go_ret
          exact ⟨ret_int HX.out, hB2⟩
      · have hmi : ¬ (m : Int) ≤ 7 := by omega
        have HX : Hid (r = -1) := Lib.hid (by
            cases hv9 : ldB xs
            · rw [← HR.out]; exact lbI_no hv9
            · have h2 := HM.out hv9; have h3 := lbI_len hv9; have h4 := (ldB_iff.1 hv9).1; rw [HR.out] at h3; omega)
        go_wp2
        go_ret
        exact ⟨ret_int HX.out.symm, hB⟩
  · by_cases h0 : n = 0
    · have HX : Hid (r = 0) := Lib.hid (by have h1 := lbI_len hv; have h2 := lbI_nn hv; rw [HR.out] at h1 h2; omega)
      have hz : ((n : Int) == 0) = true := by rw [beq_iff_eq]; omega
      clear h0
      have HN := Lib.hid hn
      have HV := Lib.hid hv
      clear hn hv
      go_enter Try.func32, Try.ntmps32
      go_wp2_with fail
      refine (sLv_is A cap xs _ HN.out h hl HV.out).mono ?_; rintro E w1 ⟨rfl, hB1⟩
      go_wp2
      go_ret
      exact ⟨ret_int HX.out.symm, hB1⟩
    · have HS : Hid (ldB xs = true → ((1 : Nat) : Int) ≤ r) := Lib.hid (fun h9 => by rw [← HR.out]; exact lbI_pos h9 (by omega))
      have hz : ((n : Int) == 0) = false := by rw [beq_eq_false_iff_ne]; omega
      have HN := Lib.hid hn
      have HV := Lib.hid hv
      clear hn hv
      go_enter Try.func32, Try.ntmps32
      go_wp2_with fail
      refine (sLv_is A cap xs _ HN.out h hl HV.out).mono ?_; rintro E w1 ⟨rfl, hB1⟩
      go_wp2_with fail
      go_loopw [3] (fun v wr => ∃ m : Nat, v = .int .i64 m ∧ 1 ≤ m ∧ m ≤ 8 ∧ Hid (ldB xs = true → (m : Int) ≤ r) ∧ Below w.heap.size w wr) (fun v _ => (8 - intOf v).toNat)
      case atStart => exact ⟨1, rfl, by omega, by omega, HS, hB1⟩
      case round =>
        clear hB1
        obtain ⟨m, rfl, m1, m2, HM, hB⟩ := hrel
        by_cases hlt : m ≤ 7
        · have hmi : (m : Int) ≤ 7 := by omega
          obtain ⟨b9, hb9⟩ : ∃ b9, lwB xs (m : Int) = b9 := ⟨_, rfl⟩
          obtain ⟨l9, hl9⟩ : ∃ l9, lwL xs (m : Int) = l9 := ⟨_, rfl⟩
          have HB9 := Lib.hid hb9
          have HL9 := Lib.hid hl9
          clear hb9 hl9
          go_wp2_with fail
          refine (sLw9_is A cap xs _ HN.out (h.next hB) hl HL9.out HB9.out).mono ?_; rintro E w2 ⟨V, cv, rfl, hO, hw2⟩
          have hB2 := bel_next hB hw2
          cases b9
          · have HX : Hid (ldB xs = true → ((m + 1 : Nat) : Int) ≤ r) := Lib.hid (fun hv9 => by
                have h1 := lwB_iff (m := (m : Int)) hv9
                rw [HB9.out, HR.out] at h1
                have h2 : ¬ (1 ≤ (m : Int) ∧ (m : Int) ≤ 7 ∧ r ≤ (m : Int)) := fun k => (by have := h1.2 k; cases this)
                omega)
            go_wp2_with fail
            go_roundw
            case rel => exact ⟨m + 1, by go_num, by omega, by omega, HX, hB2⟩
            case measure => simp [intOf]; omega
          · have HX : Hid ((m : Int) = r) := Lib.hid (by
                cases hv9 : ldB xs
                · have := lwB_no1 (m := (m : Int)) hv9; rw [HB9.out] at this; cases this
                · have h1 := (lwB_iff hv9).1 HB9.out; rw [HR.out] at h1; have h2 := HM.out hv9; omega)
            go_wp2
            go_ret
            exact ⟨ret_int HX.out, hB2⟩
        · have hmi : ¬ (m : Int) ≤ 7 := by omega
          have HX : Hid (r = -1) := Lib.hid (by
              cases hv9 : ldB xs
              · rw [← HR.out]; exact lbI_no hv9
              · have h2 := HM.out hv9; have h3 := lbI_len hv9; have h4 := (ldB_iff.1 hv9).1; rw [HR.out] at h3; omega)
          go_wp2
          go_ret
          exact ⟨ret_int HX.out.symm, hB⟩
theorem lw_law {xs : List (Int × Int)} {t : Int} {b : Bool} {l : List Int} (hb : lwB xs t = b) (hl : lwL xs t = l) : (b = false → l = []) ∧ (b = true → 1 ≤ t ∧ t ≤ 7 ∧ 0 ≤ lpI xs l ∧ lpI xs l ≤ t ∧ (t = 7 ∨ lwB xs (t + 1) = true)) := by
  constructor
  · rintro rfl; rw [← hl]; exact lwL_no hb
  · rintro rfl
    have hv : ldB xs = true := by cases h : ldB xs; rw [lwB_no1 h] at hb; cases hb; rfl
    obtain ⟨h1, h7, hle⟩ := (lwB_iff hv).1 hb
    obtain ⟨m, rfl⟩ : ∃ m : Nat, t = m := ⟨t.toNat, by omega⟩
    have ha : allH xs (lo xs) m = true := by rw [← lwB_is hv (by omega) (by omega)]; exact hb
    have hl2 : l = hrun xs (lo xs) m 10 := by rw [← hl]; exact lwL_yes hb
    have hlen : l.length = xs.length := by rw [hl2, hrun_len]
    have hin : inK xs l l.length = true := by rw [hlen, hl2]; exact allH_in (lo_ord xs) ha _ (Nat.le_refl _)
    have hp : lpI xs l = pkK l l.length := lpY hv hlen hin
    have hpk : pkK l l.length ≤ m := by rw [hl2]; exact allH_peak (lo_ord xs) hv ha
    have hnn := (pkK_bd l l.length).1
    refine ⟨h1, h7, by omega, by omega, ?_⟩
    by_cases e : (m : Int) = 7
    · exact .inl e
    · exact .inr ((lwB_iff hv).2 ⟨by omega, by omega, by omega⟩)
end Go.Proofs.Ytibpaojhjgpdaaa
