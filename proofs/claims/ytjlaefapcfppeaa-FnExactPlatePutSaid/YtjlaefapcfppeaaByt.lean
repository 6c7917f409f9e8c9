/- A text of one byte; the texts of marks. -/
import Derived.Test.YtjlaefapcfppeaaRows
import Derived.Test.YtjlaefapcfppeaaTxt
import Derived.Test.YtjlaefapcfppeaaHlp
namespace Go.Proofs.Ytjlaefapcfppeaa
open Go Go.ChangeShapes Go.WideShapes Go.ChangeAt Go.RowKit
set_option linter.unusedSimpArgs false
set_option linter.unusedVariables false

theorem byte_text (n : Nat) (w : World) (hn : n < 10) : (convert 40 9 (.slice (some ⟨w.heap.size, 0, none⟩) 1 1)).run Try.prog (w.alloc (.cells #[.int .u8 (48 + (n : Int))] 5)) = .ok (.string (bs [dg n])) (w.alloc (.cells #[.int .u8 (48 + (n : Int))] 5)) := by
  rw [run_convert_bytes_arg (P := Try.prog) (w.alloc (.cells #[.int .u8 (48 + (n : Int))] 5)) 40 5 Try.underlying40 Try.underlying5 w.heap.size 0 1 1 [48 + (n : Int)] rfl (fun i hi => by
    obtain rfl : i = 0 := by omega
    simp) 9 Try.underlying9]
  have e : strOfNums [48 + (n : Int)] = bs [dg n] := by
    have h : (48 + (n : Int)).toNat = 48 + n := by omega
    apply ByteArray.ext
    simp [strOfNums, bs, dg, h]
  rw [e]
/-- The text of a mark. -/
def mtext (k : Nat) : ByteArray := bs (109 :: Lib.decDigits k)
theorem dec_len (n : Nat) (k : Nat) (h : n < 10 ^ k) (hk : 0 < k) : (Lib.decDigits n).length ≤ k := by
  induction k generalizing n with
  | zero => omega
  | succ k ih =>
    by_cases h1 : n < 10
    · rw [dec_lt h1]; simp
    · rw [dec_ge h1, List.length_append]
      have hk0 : 0 < k := by
        rcases Nat.eq_zero_or_pos k with e | e
        · subst e; omega
        · exact e
      have := ih (n / 10) (by rw [Nat.pow_succ] at h; omega) hk0
      simp; omega
set_option maxHeartbeats 4000000 in
theorem markText_any (k : Nat) (w : World) (h1 : 1 ≤ k) (h2 : k ≤ 100000000) : Calls Try.prog 29 #[.int .i64 k] w fun e w' => e = .returned (.string (mtext k)) ∧ Below w.heap.size w w' := by
  have hd := dec_len k 9 (by omega) (by omega)
  generalize hD : Lib.decDigits k = D at hd
  have HM : Hid (mtext k = { data := #[109] } ++ bs D) := by
    show _ = _
    unfold mtext
    rw [hD, show ({ data := #[109] } : ByteArray) = bs [109] from rfl, bs_append]; rfl
  have HD := Lib.hid hD
  clear hD
  have hk1 : ¬ (k : Int) ≤ 0 := by omega
  go_enter Try.func29, Try.ntmps29
  go_wp2_with fail
  go_loopw [0, 3] (fun a b wr => ∃ (j : Int) (o : List UInt8), a = .int .i64 j ∧ b = .string (bs o) ∧ 0 ≤ j ∧ j ≤ k ∧ o.length ≤ 9 ∧ Hid ((j.toNat = 0 ∧ o = D) ∨ (0 < j.toNat ∧ Lib.decDigits j.toNat ++ o = D)) ∧ Below w.heap.size w wr) (fun a _ _ => (intOf a).toNat)
  case atStart => exact ⟨k, [], rfl, rfl, by omega, by omega, by simp, .inr ⟨by omega, by rw [Int.toNat_natCast, HD.out]; simp⟩, Below.refl _ _⟩
  case round =>
    obtain ⟨j, o, rfl, rfl, hj0, hj, ho, HJ, hB⟩ := hrel
    by_cases h0 : 0 < j
    · have hc := byte_text (j % 10).toNat wr (by omega)
      rw [show (((j % 10).toNat : Nat) : Int) = j % 10 by omega] at hc
      have HN : Hid (((j / 10).toNat = 0 ∧ dg (j % 10).toNat :: o = D) ∨ (0 < (j / 10).toNat ∧ Lib.decDigits (j / 10).toNat ++ dg (j % 10).toNat :: o = D)) := by
        have e1 : (j % 10).toNat = j.toNat % 10 := by omega
        have e2 : (j / 10).toNat = j.toNat / 10 := by omega
        rw [e1, e2]
        rcases HJ.out with ⟨h, _⟩ | ⟨_, h⟩
        · omega
        · by_cases h10 : j.toNat < 10
          · left
            rw [dec_lt h10] at h
            exact ⟨by omega, by rw [Nat.mod_eq_of_lt h10]; exact h⟩
          · right
            rw [dec_ge h10, List.append_assoc] at h
            exact ⟨by omega, h⟩
      have ho8 : (dg (j % 10).toNat :: o).length ≤ 9 := by
        rcases HN.out with ⟨_, h⟩ | ⟨_, h⟩
        · rw [h]; exact hd
        · rw [← h] at hd; simp only [List.length_append] at hd; omega
      have HA : Hid (bs [dg (j % 10).toNat] ++ bs o = bs (dg (j % 10).toNat :: o)) := by show _ = _; rw [bs_append]; rfl
      have hsz : (bs [dg (j % 10).toNat]).size = 1 := rfl
      have hso : (bs o).size = o.length := bs_size o
      have hz : ¬ 9223372036854775807 < 1 + o.length := by omega
      clear HJ
      go_wp2_with fail
      go_roundw
      case rel => exact ⟨j / 10, dg (j % 10).toNat :: o, rfl, by rw [HA.out], by omega, by omega, ho8, HN, hB.alloc hB.size _⟩
      case measure => simp [intOf]; omega
    · have hj1 : j.toNat = 0 := by omega
      have HO : Hid (o = D) := by
        rcases HJ.out with ⟨_, h⟩ | ⟨h, _⟩
        · exact h
        · omega
      have hso : (bs o).size = o.length := bs_size o
      have hz : ¬ 9223372036854775807 < 1 + o.length := by omega
      clear hj1 HJ
      go_wp2_with fail
      go_ret
      exact ⟨ret_str (by rw [HM.out, HO.out]), hB⟩
theorem markText_is (k : Nat) {z : Int} (w : World) (hz : z = (k : Int)) (h1 : 1 ≤ k) (h2 : k ≤ 100000000) : Calls Try.prog 29 #[.int .i64 z] w fun e w' => e = .returned (.string (mtext k)) ∧ Below w.heap.size w w' := by
  subst hz; exact markText_any k w h1 h2
end Go.Proofs.Ytjlaefapcfppeaa
