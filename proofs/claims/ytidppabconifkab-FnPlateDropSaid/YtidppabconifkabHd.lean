/- DialTurn and TextOk, both sides. -/
import Derived.Test.YtidppabconifkabWa
import Derived.Test.YtidppabconifkabTk
import Derived.Test.YtidppabconifkabHlp2
namespace Go.Proofs.Ytidppabconifkab
open Go Go.ChangeShapes Go.WideShapes Go.ChangeAt Go.RowKit
set_option linter.unusedSimpArgs false
set_option linter.unusedVariables false

theorem mb_any (c : UInt8) (w : World) : Calls Try.prog 93 #[.int .u8 (c.toNat : Int)] w fun e w' => e = .returned (.bool (chB c)) ∧ w = w' := by
  have hc := c.toNat_lt
  go_enter Try.func93, Try.ntmps93
  go_wp2
  all_goals go_ret
  all_goals exact ⟨ret_bool (by unfold chB; rw [Bool.eq_iff_iff]; simp_all; try omega), rfl⟩
set_option maxHeartbeats 2000000 in
theorem iTok_any (s : ByteArray) (w : World) (hs : s.size ≤ maxLen) : Calls Try.prog 58 #[.string s] w fun e w' => e = .returned (.bool (tokB s)) ∧ w = w' := by
  obtain ⟨r, hr⟩ : ∃ r, tokB s = r := ⟨_, rfl⟩
  have HR := Lib.hid hr
  rw [hr]
  clear hr
  unfold maxLen at hs
  by_cases h1 : 1 ≤ s.size ∧ s.size ≤ 5
  · obtain ⟨h1, h5⟩ := h1
    go_enter Try.func58, Try.ntmps58
    go_wp2_with fail
    go_loopw [14] (fun i wr => ∃ k : Nat, k ≤ s.size ∧ i = .int .i64 k ∧ Hid ((s.data.toList.take k).all chB = true) ∧ w = wr) (fun i _ => s.size - (intOf i).toNat)
    case atStart => exact ⟨0, Nat.zero_le _, rfl, (by show _ = _; rfl), rfl⟩
    case round =>
      obtain ⟨k, hk, rfl, HF, rfl⟩ := hrel
      by_cases hlt : k < s.size
      · cases hch : chB s[k]
        · have HB : Hid (r = false) := by show _ = _; rw [← HR.out]; exact all_bad hlt hch
          have HC := Lib.hid hch
          clear hch HF
          go_wp2_with fail
          refine (mb_any _ _).mono ?_; rintro e w' ⟨rfl, rfl⟩
          rw [HC.out]
          go_wp2_with fail
          go_ret
          exact ⟨ret_bool HB.out.symm, rfl⟩
        · have HF2 := Lib.hid (all_to hlt HF.out hch)
          have HC := Lib.hid hch
          clear hch HF
          go_wp2_with fail
          refine (mb_any _ _).mono ?_; rintro e w' ⟨rfl, rfl⟩
          rw [HC.out]
          go_wp2_with fail
          go_roundw
          case rel => exact ⟨k + 1, by omega, by go_num, HF2, by first | rfl | trivial⟩
          case measure => simp [intOf]; omega
      · have hks : k = s.size := by omega
        have HB : Hid (r = true) := by
          show _ = _
          have := HF.out
          rw [hks, List.take_of_length_le (by simp)] at this
          rw [← HR.out]; unfold tokB; rw [this]; simp; omega
        clear hks HF
        go_wp2_with fail
        go_ret
        exact ⟨ret_bool HB.out.symm, rfl⟩
  · have HB : Hid (r = false) := by
      show _ = _
      rw [← HR.out]; unfold tokB; rw [Bool.and_eq_false_iff]; right; exact decide_eq_false (by omega)
    by_cases h2 : s.size < 1
    · clear h1
      go_enter Try.func58, Try.ntmps58
      go_wp2_with fail
      go_ret
      exact ⟨ret_bool HB.out.symm, rfl⟩
    · have h3 : 5 < s.size := by omega
      clear h1
      go_enter Try.func58, Try.ntmps58
      go_wp2_with fail
      go_ret
      exact ⟨ret_bool HB.out.symm, rfl⟩
end Go.Proofs.Ytidppabconifkab
