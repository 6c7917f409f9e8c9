/- Contracts of chapter 1: numbers and dates of the older calendar. -/
import Derived.Test.YthfehlmddlfcmaaCg
namespace Go.Proofs.Ythfehlmddlfcmaa
open Go.ChangeShapes Go.WideShapes Go.ChangeAt Go.RowKit
set_option linter.unusedSimpArgs false

theorem iON_f (y m d : Int) (w : World) (h : oval y m d = false) :
    Calls Try.prog 60 #[.agg #[.int .i64 y, .int .i64 m, .int .i64 d]] w fun e w' => e = .returned (.int .i64 (-3)) ∧ Below w.heap.size w w' := by
  go_enter Try.func60, Try.ntmps60
  go_wp2_with (go_at_call 33; refine (iOV_any _ _ _ _).mono ?_; rintro e w1 ⟨rfl, hw⟩; obtain ⟨c0, c1, c2, hz, hB⟩ := own3 hw)
  go_ret
  exact ⟨ret_int rfl, hB⟩
set_option maxHeartbeats 1000000 in
theorem iON_t (y m d : Int) (w : World) (h : oval y m d = true) :
    Calls Try.prog 60 #[.agg #[.int .i64 y, .int .i64 m, .int .i64 d]] w fun e w' => e = .returned (.int .i64 (onum y m d)) ∧ Below w.heap.size w w' := by
  obtain ⟨h1, h2, h3, h4, h5, h6⟩ := oval_in h
  have hd := dim_le m (y % 4 == 0)
  have hb := cum_bd m (y % 4 == 0) h3 h4
  have hy := ody_bd y (by omega) (by omega)
  go_enter Try.func60, Try.ntmps60
  go_wp2_with (go_at_call 33; refine (iOV_any _ _ _ _).mono ?_; rintro e w1 ⟨rfl, hw⟩; obtain ⟨c0, c1, c2, hz, hB⟩ := own3 hw)
  go_quiet (first | (go_at_call 84; exact quiet_left (oDBY_any _ _ h1 (by omega))) | (go_at_call 77; exact quiet_left (oL_any _ _ (by omega))) | (go_at_call 82; exact quiet_left (dBM_any _ _ _ h3 h4)))
  go_wp2
  go_ret
  exact ⟨ret_int (by unfold onum; first | omega | (simp only [IntKind.wrap_i64]; omega)), bel_drewN hB _⟩
theorem sON_f (y m d : Int) (w : World) (h : oval y m d = false) :
    Calls Try.prog 61 #[.agg #[.int .i64 y, .int .i64 m, .int .i64 d]] w fun e w' => e = .returned (.int .i64 (-3)) ∧ Below w.heap.size w w' := by
  go_enter Try.func61, Try.ntmps61
  go_wp2_with (go_at_call 58; refine (sOV_any _ _ _ _).mono ?_; rintro e w1 ⟨rfl, hw⟩; obtain ⟨c0, c1, c2, hz, hB⟩ := own3 hw)
  go_ret
  exact ⟨ret_int rfl, hB⟩
set_option maxHeartbeats 1000000 in
theorem sON_t (y m d : Int) (w : World) (h : oval y m d = true) :
    Calls Try.prog 61 #[.agg #[.int .i64 y, .int .i64 m, .int .i64 d]] w fun e w' => e = .returned (.int .i64 (onum y m d)) ∧ Below w.heap.size w w' := by
  obtain ⟨h1, h2, h3, h4, h5, h6⟩ := oval_in h
  have hd := dim_le m (y % 4 == 0)
  have hy := ody_bd y (by omega) (by omega)
  go_enter Try.func61, Try.ntmps61
  go_wp2_with (go_at_call 58; refine (sOV_any _ _ _ _).mono ?_; rintro e w1 ⟨rfl, hw⟩; obtain ⟨c0, c1, c2, hz, hB⟩ := own3 hw)
  go_wp2
  go_loopw [3, 4] (fun n b wr => ∃ k : Int, 1 ≤ k ∧ k ≤ m ∧ b = .int .i64 k ∧ n = .int .i64 (ody y + cum k (y % 4 == 0) + d - 3) ∧ wr.cell? ⟨w.heap.size, 0, none⟩ = some (.int .i64 y) ∧ wr.cell? ⟨w.heap.size, 1, none⟩ = some (.int .i64 m) ∧ wr.cell? ⟨w.heap.size, 2, none⟩ = some (.int .i64 d) ∧ w.heap.size < wr.heap.size ∧ Below w.heap.size w wr) (fun _ b _ => (m - intOf b).toNat)
  case atStart => exact ⟨1, by omega, by omega, rfl, congrArg (Value.int .i64) (by rw [cum_one]; unfold ody; omega), c0, c1, c2, hz, hB⟩
  case round =>
    obtain ⟨k, hk1, hk2, rfl, rfl, c0, c1, c2, hz, hB⟩ := hrel
    have hb := cum_bd k (y % 4 == 0) (by omega) (by omega)
    have hd := dim_le k (y % 4 == 0)
    by_cases hlt : k < m
    · have hs := Lib.hid (cum_succ k (y % 4 == 0) (by omega) (by omega))
      go_wp2_with (go_at_call 75; refine (l1M_any _ _ _ (by omega) (by omega)).mono ?_; rintro e w' ⟨rfl, hw⟩)
      go_roundw
      case rel => exact ⟨k + 1, by omega, by omega, rfl, congrArg (Value.int .i64) (by have e1 := hs.out; omega), keep3 c0 c1 c2 hz hB hw⟩
      case measure => simp [intOf]; omega
    · obtain rfl : k = m := by omega
      go_wp2
      go_ret
      exact ⟨ret_int (by unfold onum; omega), hB⟩
def OldFull (n : Int) (w : World) (e : Ending) (w' : World) : Prop :=
  ∃ y m d : Int, e = .returned (.tuple #[.agg #[.int .i64 y, .int .i64 m, .int .i64 d], .bool true]) ∧ oval y m d = true ∧ onum y m d = n ∧ Below w.heap.size w w'
theorem iOO_f (n : Int) (w : World) (h : ¬ (-2 ≤ n ∧ n ≤ 1460969)) :
    Calls Try.prog 62 #[.int .i64 n] w (DateNone w) := by
  by_cases h0 : n < -2
  · go_enter Try.func62, Try.ntmps62
    go_wp2
    exact bodyPost_ret (v := .tuple #[.agg #[.int .i64 0, .int .i64 0, .int .i64 0], .bool false]) (by simp [results, Try.results62, go_sem]) rfl ⟨rfl, bel1 _ _⟩
  · have h1 : 1460969 < n := by omega
    go_enter Try.func62, Try.ntmps62
    go_wp2
    exact bodyPost_ret (v := .tuple #[.agg #[.int .i64 0, .int .i64 0, .int .i64 0], .bool false]) (by simp [results, Try.results62, go_sem]) rfl ⟨rfl, bel1 _ _⟩
theorem iOO_t (n : Int) (w : World) (h0 : -2 ≤ n) (h1 : n ≤ 1460969) :
    Calls Try.prog 62 #[.int .i64 n] w (OldFull n w) := by
  obtain ⟨y1, y2, y3, y4⟩ := oyo_spec (n + 2) (by omega) (by omega)
  have hs := ody_succ (oyo (n + 2))
  have HL : Hid (n + 2 - ody (oyo (n + 2)) < 365 + if (oyo (n + 2) % 4 == 0) = true then 1 else 0) := by rw [hs] at y4; show _ < _; omega
  clear hs
  have hd := ody_bd (oyo (n + 2)) (by omega) (by omega)
  go_enter Try.func62, Try.ntmps62
  go_wp2_with fail
  refine (oYO_any _ _ (by omega) (by omega)).mono ?_; rintro e w' ⟨rfl, rfl⟩
  go_wp2_with fail
  refine (oDBY_any _ _ y1 (by omega)).mono ?_; rintro e w' ⟨rfl, rfl⟩
  go_wp2_with fail
  refine (oL_any _ _ (by omega)).mono ?_; rintro e w' ⟨rfl, rfl⟩
  go_wp2_with fail
  refine (dIY_any _ _ _ _ (by omega) HL.out).mono ?_; rintro e w1 ⟨m, d, rfl, k1, k2, k3, k4, k5, hw⟩
  obtain ⟨hH, hB⟩ := ownb hw
  obtain ⟨c0, c1, c2, f0, f1, f2, hz⟩ := blk3 hH
  go_wp2
  exact bodyPost_ret (v := .tuple #[.agg #[.int .i64 (oyo (n + 2)), .int .i64 m, .int .i64 d], .bool true]) (by simp [results, Try.results62, go_sem, c0, c1, c2]) rfl ⟨_, _, _, rfl, oval_mk y1 y2 k3 k4, by unfold onum; omega, (((hB.setCell (p := ⟨_, _, _⟩) (by simp) _).setCell (p := ⟨_, _, _⟩) (by simp) _).setCell (p := ⟨_, _, _⟩) (by simp) _)⟩
theorem sOO_f (n : Int) (w : World) (h : ¬ (-2 ≤ n ∧ n ≤ 1460969)) :
    Calls Try.prog 64 #[.int .i64 n] w (DateNone w) := by
  have hb := inB_f h
  go_enter Try.func64, Try.ntmps64
  go_wp2_with (go_at_call 71; refine (l1In_any _ _ _ _).mono ?_; rintro e w' ⟨rfl, rfl⟩)
  exact bodyPost_ret (v := .tuple #[.agg #[.int .i64 0, .int .i64 0, .int .i64 0], .bool false]) (by simp [results, Try.results64, go_sem]) rfl ⟨rfl, bel1 _ _⟩
set_option maxHeartbeats 2000000 in
theorem sOO_t (n : Int) (w : World) (h0 : -2 ≤ n) (h1 : n ≤ 1460969) :
    Calls Try.prog 64 #[.int .i64 n] w (OldFull n w) := by
  have hb := inB_t h0 h1
  go_enter Try.func64, Try.ntmps64
  go_wp2_with (go_at_call 71; refine (l1In_any _ _ _ _).mono ?_; rintro e w' ⟨rfl, rfl⟩)
  go_loop [4] (fun t => ∃ y : Int, 1 ≤ y ∧ y ≤ 4000 ∧ ody y ≤ n + 2 ∧ t = .int .i64 y) (fun t => (4000 - intOf t).toNat)
  case atStart => exact ⟨(n + 2) / 366 + 1, by omega, by omega, by unfold ody; omega, rfl⟩
  case round =>
    obtain ⟨y, hy1, hy2, hy3, rfl⟩ := hrel
    have hd := ody_bd y (by omega) (by omega)
    have ed := Lib.hid (show 365 * y + y / 4 - 2 = ody (y + 1) - 2 by unfold ody; omega)
    have ed2 := Lib.hid (show n + 2 - 365 * (y - 1) - (y - 1) / 4 = n + 2 - ody y by unfold ody; omega)
    by_cases hc : 365 * y + y / 4 - 2 ≤ n
    · have hy4 : y < 4000 := by
        by_cases e : y = 4000
        · subst e; omega
        · omega
      go_wp2
      go_round
      case rel => exact ⟨y + 1, by omega, by omega, by have := ed.out; omega, rfl⟩
      case measure => simp [intOf]; omega
    · have hs := ody_succ y
      have HL : Hid (n + 2 - ody y < 365 + if (y % 4 == 0) = true then 1 else 0) := by have := ed.out; rw [hs] at this; show _ < _; omega
      clear hs
      go_wp2_with fail
      go_loopw [5, 6] (fun b s wr => ∃ m : Int, 1 ≤ m ∧ m ≤ 12 ∧ s = .int .i64 m ∧ 0 ≤ n + 2 - ody y - cum m (y % 4 == 0) ∧ b = .int .i64 (n + 2 - ody y - cum m (y % 4 == 0)) ∧ wr.heap[w.heap.size]? = some (.cells #[.int .i64 0, .int .i64 0, .int .i64 0] 30 (0, 0)) ∧ Below w.heap.size w wr) (fun _ s _ => (12 - intOf s).toNat)
      case atStart => exact ⟨1, by omega, by omega, rfl, by rw [cum_one]; have := ed2.out; omega, by rw [cum_one]; exact congrArg (Value.int .i64) (by have := ed2.out; omega), blk_new _ _, bel1 _ _⟩
      case round =>
        obtain ⟨m, hm1, hm2, rfl, hr, rfl, hH, hB⟩ := hrel
        have cb := cum_bd m (y % 4 == 0) hm1 hm2
        have db := dim_in m (y % 4 == 0) hm1 hm2
        have cs := Lib.hid (cum_succ m (y % 4 == 0) hm1 hm2)
        by_cases hc2 : dim m (y % 4 == 0) ≤ n + 2 - ody y - cum m (y % 4 == 0)
        · have hm3 : m < 12 := by
            by_cases e : m = 12
            · subst e
              have h13 := cum_13 (y % 4 == 0)
              have := cs.out
              have := HL.out
              rw [show (12 : Int) + 1 = 13 by rfl] at *
              omega
            · omega
          go_wp2_with fail
          refine (l1M_any _ _ _ (by omega) (by omega)).mono ?_; rintro e w1 ⟨rfl, hw1⟩
          go_wp2_with fail
          refine (l1M_any _ _ _ (by omega) (by omega)).mono ?_; rintro e w2 ⟨rfl, hw2⟩
          go_wp2_with fail
          go_roundw
          case rel => exact ⟨m + 1, by omega, by omega, rfl, by have e1 := cs.out; omega, congrArg (Value.int .i64) (by have e1 := cs.out; omega), blk_next (blk_next hH hw1) hw2, bel_next (bel_next hB hw1) hw2⟩
          case measure => simp [intOf]; omega
        · have hvv : oval y m (n + 2 - ody y - cum m (y % 4 == 0) + 1) = true := oval_mk hy1 hy2 (by omega) (by omega)
          go_wp2_with fail
          refine (l1M_any _ _ _ (by omega) (by omega)).mono ?_; rintro e w1 ⟨rfl, hw1⟩
          have hH1 := blk_next hH hw1
          have hz0 := blk_lt hH1
          go_wp2_with fail
          refine (sOV_any _ _ _ _).mono ?_; rintro e w2 ⟨rfl, hw2⟩
          obtain ⟨hG, hC⟩ := ownb hw2
          have hH2 := blk_next hH1 hC
          obtain ⟨c0, c1, c2, f0, f1, f2, hz⟩ := blk3 hH2
          obtain ⟨d0, d1, d2, q0, q1, q2, hz'⟩ := blk3 hG
          go_wp2
          exact bodyPost_ret (v := .tuple #[.agg #[.int .i64 y, .int .i64 m, .int .i64 (n + 2 - ody y - cum m (y % 4 == 0) + 1)], .bool true]) (by simp [results, Try.results64, go_sem, c0, c1, c2]) rfl ⟨_, _, _, rfl, hvv, by unfold onum; omega, ((((bel_next (bel_next hB hw1) hC).setCell (p := ⟨_, _, _⟩) (by simp) _).setCell (p := ⟨_, _, _⟩) (by simp) _).setCell (p := ⟨_, _, _⟩) (by simp) _)⟩
end Go.Proofs.Ythfehlmddlfcmaa
