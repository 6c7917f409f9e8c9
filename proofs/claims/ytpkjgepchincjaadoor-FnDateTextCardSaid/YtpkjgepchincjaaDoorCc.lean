/- Contracts of chapter 1: dates of numbers. -/
import Derived.Test.YtpkjgepchincjaaDoorCb
import Derived.Test.YtpkjgepchincjaaDoorCal2
namespace Go.Proofs.YtpkjgepchincjaaDoor
open Go.ChangeShapes Go.WideShapes Go.ChangeAt Go.RowKit
set_option linter.unusedSimpArgs false

theorem yOf_any (n : Int) (w : World) (h0 : 0 ≤ n) (h1 : n ≤ 1460969) :
    Calls Tryd.prog 38 #[.int .i64 n] w fun e w' => e = .returned (.int .i64 (yof n)) ∧ w = w' := by
  go_enter Tryd.func38, Tryd.ntmps38
  go_wp2
  all_goals go_ret
  all_goals exact ⟨ret_int (by unfold yof yofR; omega), rfl⟩
def DateIs (y l : Int) (lp : Bool) (w : World) (e : Ending) (w' : World) : Prop :=
  ∃ m d : Int, e = .returned (.agg #[.int .i64 y, .int .i64 m, .int .i64 d]) ∧ 1 ≤ m ∧ m ≤ 12 ∧ 1 ≤ d ∧ d ≤ dim m lp ∧ cum m lp + d - 1 = l ∧ Below w.heap.size w w'
theorem dIY_any (y l : Int) (lp : Bool) (w : World) (h0 : 0 ≤ l) (h1 : l < 365 + (if lp = true then 1 else 0)) :
    Calls Tryd.prog 39 #[.int .i64 y, .int .i64 l, .bool lp] w (DateIs y l lp w) := by
  have hl : l ≤ 366 := by split at h1 <;> omega
  have H1 := Lib.hid h1
  clear h1
  go_enter Tryd.func39, Tryd.ntmps39
  go_wp2
  go_loop [1, 7] (fun b s => ∃ m : Int, 1 ≤ m ∧ m ≤ 12 ∧ s = .int .i64 m ∧ 0 ≤ l - cum m lp ∧ b = .int .i64 (l - cum m lp)) (fun _ s => (12 - intOf s).toNat)
  case atStart => exact ⟨1, by omega, by omega, rfl, by rw [cum_one]; omega, by rw [cum_one]; simp⟩
  case round =>
    obtain ⟨m, hm1, hm2, rfl, hr, rfl⟩ := hrel
    have cb := cum_bd m lp hm1 hm2
    have db := dim_in m lp hm1 hm2
    have cs := Lib.hid (cum_succ m lp hm1 hm2)
    by_cases hc : m < 12 ∧ dim m lp ≤ l - cum m lp
    · obtain ⟨hm, hd⟩ := hc
      go_wp2_with (go_at_call 37; refine (md_any _ _ _).mono ?_; rintro e w' ⟨rfl, rfl⟩)
      go_round
      case rel => exact ⟨m + 1, by omega, by omega, rfl, by rw [cs.out]; omega, by rw [cs.out]; exact congrArg (Value.int .i64) (by omega)⟩
      case measure => simp [intOf]; omega
    · have hv : l - cum m lp < dim m lp := by
        by_cases e : m = 12
        · subst e
          have h13 := cum_13 lp
          have := cs.out
          have := H1.out
          rw [show (12 : Int) + 1 = 13 by rfl] at *
          omega
        · omega
      clear hc
      by_cases hm : m < 12
      all_goals
        go_wp2_with (go_at_call 37; refine (md_any _ _ _).mono ?_; rintro e w' ⟨rfl, rfl⟩)
        refine bodyPost_ret (v := .agg #[.int .i64 y, .int .i64 m, .int .i64 (l - cum m lp + 1)]) (by simp [results, Tryd.results39, go_sem]) rfl ⟨m, _, rfl, hm1, hm2, by omega, by omega, by omega, ?_⟩
        exact bel1 _ _
def DateFull (n : Int) (w : World) (e : Ending) (w' : World) : Prop :=
  ∃ y m d : Int, e = .returned (.tuple #[.agg #[.int .i64 y, .int .i64 m, .int .i64 d], .bool true]) ∧ valB y m d = true ∧ num y m d = n ∧ Below w.heap.size w w'
def DateNone (w : World) (e : Ending) (w' : World) : Prop :=
  e = .returned (.tuple #[.agg #[.int .i64 0, .int .i64 0, .int .i64 0], .bool false]) ∧ Below w.heap.size w w'
theorem iDO_f (n : Int) (w : World) (h : ¬ (0 ≤ n ∧ n ≤ 1460969)) :
    Calls Tryd.prog 26 #[.int .i64 n] w (DateNone w) := by
  by_cases h0 : n < 0
  · go_enter Tryd.func26, Tryd.ntmps26
    go_wp2
    exact bodyPost_ret (v := .tuple #[.agg #[.int .i64 0, .int .i64 0, .int .i64 0], .bool false]) (by simp [results, Tryd.results26, go_sem]) rfl ⟨rfl, bel1 _ _⟩
  · have h1 : 1460969 < n := by omega
    go_enter Tryd.func26, Tryd.ntmps26
    go_wp2
    exact bodyPost_ret (v := .tuple #[.agg #[.int .i64 0, .int .i64 0, .int .i64 0], .bool false]) (by simp [results, Tryd.results26, go_sem]) rfl ⟨rfl, bel1 _ _⟩
theorem iDO_t (n : Int) (w : World) (h0 : 0 ≤ n) (h1 : n ≤ 1460969) :
    Calls Tryd.prog 26 #[.int .i64 n] w (DateFull n w) := by
  obtain ⟨y1, y2, y3, y4⟩ := yof_spec n h0 h1
  have hs := dby_succ (yof n) y1 y2
  have HL : Hid (n - dby (yof n) < 365 + if leapB (yof n) = true then 1 else 0) := by rw [hs] at y4; show _ < _; omega
  clear hs
  have hd := dby_bd (yof n) (by omega) (by omega)
  go_enter Tryd.func26, Tryd.ntmps26
  go_wp2_with (first | (go_at_call 38; refine (yOf_any _ _ h0 h1).mono ?_; rintro e w' ⟨rfl, rfl⟩) | (go_at_call 40; refine (dBY_any _ _ y1 (by omega)).mono ?_; rintro e w' ⟨rfl, rfl⟩) | (go_at_call 24; refine (iLeap_any _ _).mono ?_; rintro e w' ⟨rfl, rfl⟩) | (go_at_call 39; refine (dIY_any _ _ _ _ (by omega) HL.out).mono ?_; rintro e w1 ⟨m, d, rfl, k1, k2, k3, k4, k5, hw⟩; obtain ⟨hH, hB⟩ := ownb hw; obtain ⟨c0, c1, c2, f0, f1, f2, hz⟩ := blk3 hH))
  exact bodyPost_ret (v := .tuple #[.agg #[.int .i64 (yof n), .int .i64 m, .int .i64 d], .bool true]) (by simp [results, Tryd.results26, go_sem, c0, c1, c2]) rfl ⟨_, _, _, rfl, valB_mk y1 y2 k3 k4, by unfold num; omega, (((hB.setCell (p := ⟨_, _, _⟩) (by simp) _).setCell (p := ⟨_, _, _⟩) (by simp) _).setCell (p := ⟨_, _, _⟩) (by simp) _)⟩
end Go.Proofs.YtpkjgepchincjaaDoor
