/- Contracts of chapter 7: the bound of loads. -/
import Derived.Test.YtibpaojhjgpdaaaZl
namespace Go.Proofs.Ytibpaojhjgpdaaa
open Go Go.ChangeShapes Go.WideShapes Go.ChangeAt Go.RowKit
set_option linter.unusedSimpArgs false
set_option linter.unusedVariables false

theorem inW_at (a b f l : Int) : inW a b (f, l) = (decide (a ≤ f) && decide (l ≤ b)) := rfl
theorem clI_bd {n a b : Int} (hn : 0 ≤ n) (h : a ≤ b) : clI n a b ≤ n + b - a := by unfold clI; exact Int.ediv_le_self _ (by omega)
theorem quoB {n a b : Int} (hn : 0 ≤ n) (h : a ≤ b) : (n + b - a).tdiv (b - a + 1) = clI n a b := by unfold clI; rw [Int.tdiv_eq_ediv_of_nonneg (by omega)]
theorem quoC {n a b : Int} (hn : 0 ≤ n) (h : a ≤ b) : (n + (b - a + 1) - 1).tdiv (b - a + 1) = clI n a b := by rw [show n + (b - a + 1) - 1 = n + b - a by omega]; exact quoB hn h
set_option maxHeartbeats 4000000 in
theorem iLw_is (A : Option Addr) (cap : Nat) (xs : List VLoad) {n c : Nat} {a b : Int} (w : World) (hn : xs.length = n) (h : SRow encLoad w A xs) (hl : n ≤ 2000000) (hc : cntW xs a b = c) :
    Calls Try.prog 69 #[.slice A n cap, .int .i64 a, .int .i64 b] w fun E w' => E = .returned (.int .i64 c) ∧ Below w.heap.size w w' := by
  have HC := Lib.hid hc
  have HN := Lib.hid hn
  clear hc hn
  go_enter Try.func69, Try.ntmps69
  go_wp2_with fail
  go_loopw [7, 12] (fun cv v wr => ∃ (k q : Nat), v = .int .i64 k ∧ k ≤ n ∧ q ≤ k ∧ cv = .int .i64 q ∧ Hid (cntW (xs.take k) a b = q) ∧ Below w.heap.size w wr) (fun _ v _ => (n - intOf v).toNat)
  case atStart => exact ⟨0, 0, rfl, by omega, by omega, rfl, (by show _ = _; rfl), Below.refl _ _⟩
  case round =>
    obtain ⟨k, q, rfl, k1, qk, rfl, HQ, hB⟩ := hrel
    by_cases hlt : k < n
    · have hk : k < xs.length := by rw [HN.out]; exact hlt
      have hki : (k : Int) < (n : Int) := by omega
      obtain ⟨bb, off, rfl, hb, c0, c1⟩ := rowLoad (h.next hB) hk
      have hs0 := cntW_step hk a b
      rw [HQ.out] at hs0
      have hs1 : inW a b xs[k] = (decide (a ≤ xs[k].1) && decide (xs[k].2 ≤ b)) := rfl
      rw [hs1] at hs0
      clear hs1
      have HS := Lib.hid hs0
      clear hs0
      generalize xs[k].1 = g at c0 HS
      generalize xs[k].2 = d at c1 HS
      by_cases h1 : a ≤ g
      · by_cases h2 : d ≤ b
        · have HS2 := Lib.hid (HS.out.trans (by rw [decide_eq_true h1, decide_eq_true h2] <;> rfl))
          clear HS
          go_wp2_with fail
          go_roundw
          case rel => exact ⟨k + 1, q + 1, by go_num, by omega, by omega, by first | rfl | go_num, HS2, hB.alloc hB.size _⟩
          case measure => simp [intOf]; omega
        · have HS2 := Lib.hid (HS.out.trans (by rw [decide_eq_true h1, decide_eq_false h2] <;> rfl))
          clear HS
          go_wp2_with fail
          go_roundw
          case rel => exact ⟨k + 1, q, by go_num, by omega, by omega, by first | rfl | go_num, HS2, hB.alloc hB.size _⟩
          case measure => simp [intOf]; omega
      · have HS2 := Lib.hid (HS.out.trans (by rw [decide_eq_false h1] <;> rfl))
        clear HS
        go_wp2_with fail
        go_roundw
        case rel => exact ⟨k + 1, q, by go_num, by omega, by omega, by first | rfl | go_num, HS2, hB.alloc hB.size _⟩
        case measure => simp [intOf]; omega
    · obtain rfl : k = n := by omega
      have hki : ¬ (k : Int) < (k : Int) := by omega
      have hqc : q = c := by rw [← HQ.out, ← HC.out, List.take_of_length_le (by rw [HN.out]; omega)]
      subst hqc
      go_wp2_with fail
      go_ret
      exact ⟨rfl, hB⟩
set_option maxRecDepth 100000 in
set_option maxHeartbeats 4000000 in
theorem iLb_is (A : Option Addr) (cap : Nat) (xs : List VLoad) {n : Nat} {r : Int} (w : World) (hn : xs.length = n) (h : SRow encLoad w A xs) (hl : n ≤ 2000000) (hr : lbI xs = r) :
    Calls Try.prog 37 #[.slice A n cap] w fun E w' => E = .returned (.int .i64 r) ∧ Below w.heap.size w w' := by
  cases hv : ldB xs
  · obtain rfl : r = -1 := by rw [← hr]; exact lbI_no hv
    have HV := Lib.hid hv
    clear hv hr
    go_enter Try.func37, Try.ntmps37
    go_wp2_with fail
    refine (iLv_is A cap xs _ hn h hl HV.out).mono ?_; rintro E w1 ⟨rfl, hw1⟩
    go_wp2
    go_ret
    exact ⟨rfl, hw1⟩
  · have hr2 : lbO xs 10 = r := by rw [← hr]; exact (lbI_yes hv).symm
    have hn10 : n ≤ 7 := by have := (ldB_iff.1 hv).1; omega
    have HV := Lib.hid hv
    have HR := Lib.hid hr2
    have HN := Lib.hid hn
    clear hv hr hr2 hn
    go_enter Try.func37, Try.ntmps37
    go_wp2_with fail
    refine (iLv_is A cap xs _ HN.out h hl HV.out).mono ?_; rintro E w1 ⟨rfl, hB1⟩
    go_wp2_with fail
    go_loopw [3, 10] (fun mv v wr => ∃ (a : Nat) (t : Int), v = .int .i64 a ∧ a ≤ 10 ∧ mv = .int .i64 t ∧ Hid (lbO xs a = t) ∧ Below w.heap.size w wr) (fun _ v _ => (10 - intOf v).toNat)
    case atStart => exact ⟨0, 0, rfl, by omega, rfl, (by show _ = _; rfl), hB1⟩
    case round =>
      clear hB1
      obtain ⟨a, t0, rfl, a1, rfl, HT, hBa⟩ := hrel
      by_cases hla : a < 10
      · have hai : (a : Int) < 10 := by omega
        obtain ⟨wo, rfl⟩ : ∃ wo : World, wo = wr := ⟨_, rfl⟩
        go_wp2_with fail
        go_loopw [3, 5] (fun mv v wr => ∃ (j : Nat) (t : Int), v = .int .i64 (a + j) ∧ a + j ≤ 10 ∧ mv = .int .i64 t ∧ Hid (lbN xs a j t0 = t) ∧ Below w.heap.size w wr) (fun _ v _ => (10 - intOf v).toNat)
        case atStart => exact ⟨0, t0, by simp, by omega, rfl, (by show _ = _; rfl), hBa⟩
        case round =>
          clear hBa
          obtain ⟨j, t, rfl, j1, rfl, HE, hB⟩ := hrel
          by_cases hlj : a + j < 10
          · obtain ⟨l, hl9⟩ : ∃ l : Nat, a + j = l := ⟨_, rfl⟩
            have hl8 : (a : Int) + (j : Int) = (l : Int) := by omega
            rw [hl8]
            have hli : (l : Int) < 10 := by omega
            have hal : a ≤ l := by omega
            obtain ⟨c, hc⟩ : ∃ c, cntW xs a l = c := ⟨_, rfl⟩
            have hcn : c ≤ 7 := by have := cntW_le xs a l; rw [hc, HN.out] at this; omega
            have HC := Lib.hid hc
            have HE1 : Hid (lbN xs a (j + 1) t0 = max t (clI c a l)) := Lib.hid (by rw [lbN, HE.out, hl8, hc])
            have HL8 : Hid ((a : Int) + ((j + 1 : Nat) : Int) = (l : Int) + 1) := Lib.hid (by omega)
            have hj2 : a + (j + 1) ≤ 10 := by omega
            clear hc hl9 hl8 j1 HE hlj
            have hw1 : IntKind.i64.wrap ((l : Int) - (a : Int)) = (l : Int) - (a : Int) := IntWalk.i64_in _ (by omega)
            have hqq := quoC (n := (c : Int)) (a := (a : Int)) (b := (l : Int)) (by omega) (by omega)
            have hq0 := clI_nn (n := (c : Int)) (a := (a : Int)) (b := (l : Int)) (by omega) (by omega)
            have hnz : ¬ ((l : Int) - (a : Int) + 1 = 0) := by omega
            have hq1 := clI_bd (n := (c : Int)) (a := (a : Int)) (b := (l : Int)) (by omega) (by omega)
            generalize clI c a l = p at HE1 hqq hq0 hq1
            have hwp : wrap64 p = p := by unfold wrap64; omega
            go_wp2_with fail
            refine (iLw_is A cap xs _ HN.out (h.next hB) hl HC.out).mono ?_; rintro E w3 ⟨rfl, hw3⟩
            have hB3 := bel_next hB hw3
            by_cases hm : t < p
            · have HX := Lib.hid (HE1.out.trans (show max t p = p by omega))
              go_wp2_with fail
              go_roundw
              case rel => exact ⟨j + 1, p, by (refine congrArg _ ?_; have := HL8.out; omega), hj2, (by first | rfl | rw [hwp, if_pos hm] | rw [hwp, if_neg hm] | rw [if_pos hm] | rw [if_neg hm]), HX, hB3⟩
              case measure => simp [intOf]; omega
            · have HX := Lib.hid (HE1.out.trans (show max t p = t by omega))
              go_wp2_with fail
              go_roundw
              case rel => exact ⟨j + 1, t, by (refine congrArg _ ?_; have := HL8.out; omega), hj2, (by first | rfl | rw [hwp, if_pos hm] | rw [hwp, if_neg hm] | rw [if_pos hm] | rw [if_neg hm]), HX, hB3⟩
              case measure => simp [intOf]; omega
          · have hlj2 : ¬ ((a : Int) + (j : Int)) < 10 := by omega
            have hte : lbO xs (a + 1) = t := by rw [lbO, HT.out, ← HE.out]; congr 1; omega
            have HTE := Lib.hid hte
            clear hte
            go_wp2_with fail
            go_roundw
            case rel => exact ⟨a + 1, t, by go_num, by omega, rfl, HTE, hB⟩
            case measure => simp [intOf]; omega
      · obtain rfl : a = 10 := by omega
        obtain rfl : t0 = r := by rw [← HT.out, HR.out]
        go_wp2_with fail
        go_ret
        exact ⟨rfl, hBa⟩
end Go.Proofs.Ytibpaojhjgpdaaa
