/- Texts of marks. -/
import Derived.Test.YtidppabconifkabRows
import Derived.Test.YtidppabconifkabHlp
namespace Go.Proofs.Ytidppabconifkab
open Go Go.ChangeShapes Go.WideShapes Go.ChangeAt Go.RowKit
set_option linter.unusedSimpArgs false
set_option linter.unusedVariables false
set_option linter.unnecessarySimpa false

def chB (c : UInt8) : Bool := decide ((97 ≤ (c.toNat : Int) ∧ (c.toNat : Int) ≤ 122) ∨ (48 ≤ (c.toNat : Int) ∧ (c.toNat : Int) ≤ 58))
/-- A text of a mark. -/
def tokB (s : ByteArray) : Bool := s.data.toList.all chB && decide (1 ≤ (s.size : Int) ∧ (s.size : Int) ≤ 5)
theorem all_bad {s : ByteArray} {k : Nat} (hk : k < s.size) (h : chB s[k] = false) : tokB s = false := by
  unfold tokB
  rw [Bool.and_eq_false_iff]
  left
  rw [List.all_eq_false]
  refine ⟨s[k], ?_, by simp [h]⟩
  exact Array.mem_toList_iff.2 (Array.getElem_mem (xs := s.data) (by simpa using hk))
theorem all_to {s : ByteArray} {k : Nat} (hk : k < s.size) (h : (s.data.toList.take k).all chB = true) (h2 : chB s[k] = true) : (s.data.toList.take (k + 1)).all chB = true := by
  have hts : s.data.toList.take (k + 1) = s.data.toList.take k ++ [s[k]] := by
    rw [List.take_succ_eq_append_getElem (by simpa using hk)]; rfl
  rw [hts, List.all_append, h]; simp [h2]
theorem tok_size {s : ByteArray} (h : tokB s = true) : 1 ≤ s.size := by
  unfold tokB at h
  rw [Bool.and_eq_true] at h
  have := of_decide_eq_true h.2
  omega
theorem tok_space (s : ByteArray) : tokB (s ++ ⟨#[32]⟩) = false := by
  have h1 : s.size < (s ++ ⟨#[32]⟩ : ByteArray).size := by rw [ByteArray.size_append]; show _ < _ + 1; omega
  refine all_bad (k := s.size) h1 ?_
  have e : (s ++ ⟨#[32]⟩ : ByteArray)[s.size] = 32 := by
    rw [ByteArray.getElem_append_right (by omega)]
    simp
    rfl
  rw [e]; decide
theorem tok_first {s : ByteArray} (h : tokB s = true) : tokB (s.extract 0 1) = true := by
  have hs := tok_size h
  unfold tokB at h ⊢
  rw [Bool.and_eq_true] at h ⊢
  have e : (s.extract 0 1).data.toList = s.data.toList.take 1 := by simp [ByteArray.data_extract]
  have e2 : (s.extract 0 1).size = 1 := by rw [ByteArray.size_extract]; omega
  refine ⟨?_, ?_⟩
  · rw [e, List.all_eq_true]
    intro x hx
    exact List.all_eq_true.1 h.1 x (List.mem_of_mem_take hx)
  · rw [e2]; decide
theorem in_any (n a b : Int) (w : World) : Calls Try.prog 32 #[.int .i64 n, .int .i64 a, .int .i64 b] w fun e w' => e = .returned (.bool (decide (a ≤ n ∧ n ≤ b))) ∧ w = w' := by
  go_enter Try.func32, Try.ntmps32
  go_wp2
  all_goals go_ret
  all_goals exact ⟨ret_bool (by rw [Bool.eq_iff_iff]; simp; omega), rfl⟩
set_option maxHeartbeats 2000000 in
theorem sTok_any (s : ByteArray) (w : World) (hs : s.size ≤ maxLen) : Calls Try.prog 90 #[.string s] w fun e w' => e = .returned (.bool (tokB s)) ∧ w = w' := by
  obtain ⟨r, hr⟩ : ∃ r, tokB s = r := ⟨_, rfl⟩
  have HR := Lib.hid hr
  rw [hr]
  clear hr
  unfold maxLen at hs
  go_enter Try.func90, Try.ntmps90
  go_wp2_with fail
  go_loopw [3] (fun i wr => ∃ k : Nat, k ≤ s.size ∧ i = .int .i64 k ∧ Hid ((s.data.toList.take k).all chB = true) ∧ w = wr) (fun i _ => s.size - (intOf i).toNat)
  case atStart => exact ⟨0, Nat.zero_le _, rfl, (by show _ = _; rfl), rfl⟩
  case round =>
    obtain ⟨k, hk, rfl, HF, rfl⟩ := hrel
    by_cases hlt : k < s.size
    · have hc := s[k].toNat_lt
      cases hch : chB s[k]
      · have HB : Hid (r = false) := by show _ = _; rw [← HR.out]; exact all_bad hlt hch
        have hn : ¬ ((97 ≤ (s[k].toNat : Int) ∧ (s[k].toNat : Int) ≤ 122) ∨ (48 ≤ (s[k].toNat : Int) ∧ (s[k].toNat : Int) ≤ 58)) := by
          unfold chB at hch; simpa using hch
        by_cases h1 : 97 ≤ (s[k].toNat : Int)
        · have h2 : ¬ (s[k].toNat : Int) ≤ 122 := by omega
          have h3 : 48 ≤ (s[k].toNat : Int) := by omega
          have h4 : ¬ (s[k].toNat : Int) ≤ 58 := by omega
          clear hn hch HF
          go_wp2
          go_ret
          exact ⟨ret_bool (by rw [HB.out] <;> simp), rfl⟩
        · by_cases h3 : 48 ≤ (s[k].toNat : Int)
          · have h4 : ¬ (s[k].toNat : Int) ≤ 58 := by omega
            clear hn hch HF
            go_wp2
            go_ret
            exact ⟨ret_bool (by rw [HB.out] <;> simp), rfl⟩
          · clear hn hch HF
            go_wp2
            go_ret
            exact ⟨ret_bool (by rw [HB.out] <;> simp), rfl⟩
      · have HF2 := Lib.hid (all_to hlt HF.out hch)
        have hn : ((97 ≤ (s[k].toNat : Int) ∧ (s[k].toNat : Int) ≤ 122) ∨ (48 ≤ (s[k].toNat : Int) ∧ (s[k].toNat : Int) ≤ 58)) := by
          unfold chB at hch; simpa using hch
        by_cases h1 : 97 ≤ (s[k].toNat : Int)
        · have h2 : (s[k].toNat : Int) ≤ 122 := by omega
          clear hn hch HF
          go_wp2_with fail
          go_roundw
          case rel => exact ⟨k + 1, by omega, by go_num, HF2, by first | rfl | trivial⟩
          case measure => simp [intOf]; omega
        · have h3 : 48 ≤ (s[k].toNat : Int) := by omega
          have h4 : (s[k].toNat : Int) ≤ 58 := by omega
          clear hn hch HF
          go_wp2_with fail
          go_roundw
          case rel => exact ⟨k + 1, by omega, by go_num, HF2, by first | rfl | trivial⟩
          case measure => simp [intOf]; omega
    · have hks : k = s.size := by omega
      have HB : Hid (r = decide (1 ≤ (s.size : Int) ∧ (s.size : Int) ≤ 5)) := by
        show _ = _
        have := HF.out
        rw [hks, List.take_of_length_le (by simp)] at this
        rw [← HR.out]; unfold tokB; rw [this]; rfl
      clear hks HF
      go_wp2_with fail
      refine (in_any _ _ _ _).mono ?_; rintro e w1 ⟨rfl, rfl⟩
      go_wp2
      go_ret
      exact ⟨ret_bool (by rw [HB.out] <;> simp), rfl⟩
end Go.Proofs.Ytidppabconifkab
