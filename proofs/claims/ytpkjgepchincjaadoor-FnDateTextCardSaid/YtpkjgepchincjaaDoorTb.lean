/- Contracts of chapter 1: texts of dates. -/
import Derived.Test.YtpkjgepchincjaaDoorCa
import Derived.Test.YtpkjgepchincjaaDoorShf
import Derived.Test.YtpkjgepchincjaaDoorTa
import Derived.Test.YtpkjgepchincjaaDoorHlp2
import Derived.Lib.SmallJoins
import Derived.Lib.LaidTab
namespace Go.Proofs.YtpkjgepchincjaaDoor
open Go Go.ChangeShapes Go.WideShapes Go.ChangeAt Go.RowKit
set_option linter.unusedSimpArgs false
set_option linter.unusedVariables false

/-- The library's table of powers of ten. -/
def Tab (w : World) : Prop := Lib.TabIs Tryd.prog w "internal/strconv.uint64pow10" .u64 Lib.pow10Tab
theorem Tab.next {w w' : World} (h : Tab w) (hw : Below w.heap.size w w') : Tab w' := Go.Joins.tab_stays (g := 0) (by kernel_rfl) h hw (Nat.le_refl _)
theorem ret_str {a b : ByteArray} (h : a = b) : Ending.returned (.string a) = .returned (.string b) := by rw [h]
theorem grow_below (w : World) (k : Nat) (os : Array Obj) : Below w.heap.size w (Sort.grow (w.drewN k) os) :=
  ⟨rfl, rfl, rfl, by simp [Sort.grow], fun j hj => by simp [Sort.grow, Array.getElem?_append, hj]⟩
theorem itoa_any (n : Nat) (w : World) (hn : n ≤ 9999) (ht : Tab w) : Calls Tryd.prog 31 #[.int .i64 n] w fun e w' => e = .returned (.string (bs (Lib.decDigits n))) ∧ Below w.heap.size w w' := by
  refine (Tryd.strconv_Itoa (n : Int) (by omega) (by omega) w ht).mono ?_
  rintro e w' ⟨rfl, k, os, rfl⟩
  refine ⟨ret_str ?_, grow_below _ _ _⟩
  unfold Lib.itoa bs; rw [if_neg (by omega)]; rfl
theorem rep_any (c : Nat) (w : World) (hc : c ≤ 10) : Calls Tryd.prog 32 #[.string (bs [48]), .int .i64 c] w fun e w' => e = .returned (.string (bs (List.replicate c 48))) ∧ Below w.heap.size w w' := by
  refine (Tryd.strings_Repeat (bs [48]) c w (by omega) (by simp [bs_size]; omega)).mono ?_
  rintro e w' ⟨rfl, hw⟩
  refine ⟨ret_str ?_, hw⟩
  have : ∀ c, Lib.repeatL [48] c = List.replicate c 48 := by
    intro c
    induction c with
    | zero => rfl
    | succ c ih => simp [Lib.repeatL, ih, List.replicate_succ]
  show (⟨(Lib.repeatL [48] c).toArray⟩ : ByteArray) = _
  rw [this]; rfl
theorem byte_text (n : Nat) (w : World) (hn : n < 10) : (convert 22 9 (.slice (some ⟨w.heap.size, 0, none⟩) 1 1)).run Tryd.prog (w.alloc (.cells #[.int .u8 (48 + (n : Int))] 5)) = .ok (.string (bs [dg n])) (w.alloc (.cells #[.int .u8 (48 + (n : Int))] 5)) := by
  rw [run_convert_bytes_arg (P := Tryd.prog) (w.alloc (.cells #[.int .u8 (48 + (n : Int))] 5)) 22 5 Tryd.underlying22 Tryd.underlying5 w.heap.size 0 1 1 [48 + (n : Int)] rfl (fun i hi => by
    obtain rfl : i = 0 := by omega
    simp) 9 Tryd.underlying9]
  have e : strOfNums [48 + (n : Int)] = bs [dg n] := by
    have h : (48 + (n : Int)).toNat = 48 + n := by omega
    apply ByteArray.ext
    simp [strOfNums, bs, dg, h]
  rw [e]
theorem one_any (n : Int) (w : World) (h0 : 0 ≤ n) (hn : n < 10) : Calls Tryd.prog 35 #[.int .i64 n] w fun e w' => e = .returned (.string (bs [dg n.toNat])) ∧ Below w.heap.size w w' := by
  obtain ⟨k, rfl⟩ : ∃ k : Nat, n = k := ⟨n.toNat, by omega⟩
  have hc := byte_text k w (by omega)
  go_enter Tryd.func35, Tryd.ntmps35
  go_wp2
  go_ret
  exact ⟨ret_str (by simp), bel1 _ _⟩
theorem l1Two_any (n : Int) (w : World) (h0 : 0 ≤ n) (hn : n < 100) : Calls Tryd.prog 22 #[.int .i64 n] w fun e w' => e = .returned (.string (bs (two n.toNat))) ∧ Below w.heap.size w w' := by
  have HE : Hid (bs [dg (n / 10).toNat] ++ bs [dg (n % 10).toNat] = bs (two n.toNat)) := by
    show _ = _
    rw [bs_append, show (n / 10).toNat = n.toNat / 10 by omega, show (n % 10).toNat = n.toNat % 10 by omega]; rfl
  go_enter Tryd.func22, Tryd.ntmps22
  go_wp2_with fail
  refine (one_any _ _ (by omega) (by omega)).mono ?_; rintro e w1 ⟨rfl, hw1⟩
  go_wp2_with fail
  refine (one_any _ _ (by omega) (by omega)).mono ?_; rintro e w2 ⟨rfl, hw2⟩
  go_wp2
  go_ret
  exact ⟨ret_str HE.out, bel_next hw1 hw2⟩
theorem padded_any (n k : Nat) (l : List UInt8) (w : World) (hn : n ≤ 9999) (hk : k ≤ 4) (hl : (Lib.decDigits n).length ≤ k) (he : pad k (Lib.decDigits n) = l) (ht : Tab w) : Calls Tryd.prog 20 #[.int .i64 n, .int .i64 k] w fun e w' => e = .returned (.string (bs l)) ∧ Below w.heap.size w w' := by
  obtain ⟨L, hL⟩ : ∃ L, (Lib.decDigits n).length = L := ⟨_, rfl⟩
  have hs : (bs (Lib.decDigits n)).size = L := by rw [bs_size]; exact hL
  have HE : Hid (bs (List.replicate (k - L) 48) ++ bs (Lib.decDigits n) = bs l) := by show _ = _; rw [bs_append, ← he, ← hL]; rfl
  rw [hL] at hl
  have hs2 : (bs (List.replicate (k - L) 48)).size = k - L := by rw [bs_size]; simp
  clear he hL
  go_enter Tryd.func20, Tryd.ntmps20
  go_wp2_with fail
  refine (itoa_any _ _ hn ht).mono ?_; rintro e w1 ⟨rfl, hw1⟩
  go_wp2_with fail
  rw [show max ((k : Int) - (L : Int)) 0 = ((k - L : Nat) : Int) by omega]
  refine (rep_any _ _ (by omega)).mono ?_; rintro e w2 ⟨rfl, hw2⟩
  go_wp2
  go_ret
  exact ⟨ret_str HE.out, bel_next hw1 hw2⟩
theorem len2 {n : Nat} (h : n < 100) : (Lib.decDigits n).length ≤ 2 := by
  by_cases h1 : n < 10
  · rw [dec_lt h1]; simp
  · rw [dec_ge h1, dec_lt (by omega)]; simp
theorem len4 {n : Nat} (h : n < 10000) : (Lib.decDigits n).length ≤ 4 := by
  by_cases h1 : n < 100
  · have := len2 h1; omega
  · rw [dec_ge (by omega), List.length_append]
    by_cases h2 : n / 10 < 100
    · have := len2 h2; simp; omega
    · rw [dec_ge (by omega), List.length_append]
      have := len2 (n := n / 10 / 10) (by omega); simp; omega
theorem pad_two (n : Int) (w : World) (h0 : 0 ≤ n) (h : n < 100) (ht : Tab w) : Calls Tryd.prog 20 #[.int .i64 n, .int .i64 2] w fun e w' => e = .returned (.string (bs (two n.toNat))) ∧ Below w.heap.size w w' := by
  obtain ⟨k, rfl⟩ : ∃ k : Nat, n = k := ⟨n.toNat, by omega⟩
  exact padded_any k 2 _ w (by omega) (by omega) (len2 (by omega)) (pad2 (by omega)) ht
theorem pad_four (n : Int) (w : World) (h0 : 0 ≤ n) (h : n < 10000) (ht : Tab w) : Calls Tryd.prog 20 #[.int .i64 n, .int .i64 4] w fun e w' => e = .returned (.string (bs (four n.toNat))) ∧ Below w.heap.size w w' := by
  obtain ⟨k, rfl⟩ : ∃ k : Nat, n = k := ⟨n.toNat, by omega⟩
  exact padded_any k 4 _ w (by omega) (by omega) (len4 (by omega)) (pad4 (by omega)) ht
theorem dsum_any (s : ByteArray) (w : World) (h : s.size ≤ 4) : Calls Tryd.prog 25 #[.string s] w fun e w' => e = .returned (.int .i64 (dsum s.data.toList)) ∧ Below w.heap.size w w' := by
  go_enter Tryd.func25, Tryd.ntmps25
  go_wp2_with fail
  go_loopw [3, 7] (fun n i wr => ∃ k : Nat, k ≤ s.size ∧ i = .int .i64 k ∧ n = .int .i64 (dsum (s.data.toList.take k)) ∧ Below w.heap.size w wr) (fun _ i _ => s.size - (intOf i).toNat)
  case atStart => exact ⟨0, Nat.zero_le _, rfl, rfl, Below.refl _ _⟩
  case round =>
    obtain ⟨k, hk, rfl, rfl, hB⟩ := hrel
    have hd := dsum_bd (s.data.toList.take k) k (List.length_take_le _ _) (by omega)
    by_cases hlt : k < s.size
    · have hc := s[k].toNat_lt
      have hts : s.data.toList.take (k + 1) = s.data.toList.take k ++ [s[k]] := by
        rw [List.take_succ_eq_append_getElem (by simpa using hlt)]; rfl
      have HS : Hid (dsum (s.data.toList.take (k + 1)) = dsum (s.data.toList.take k) * 10 + (s[k].toNat : Int) - 48) := by show _ = _; rw [hts]; exact dsum_snoc _ _
      clear hts
      go_wp2_with fail
      go_roundw
      case rel => exact ⟨k + 1, by omega, by go_num, by rw [HS.out], hB⟩
      case measure => simp [intOf]; omega
    · go_wp2_with fail
      go_ret
      exact ⟨ret_int (by rw [List.take_of_length_le (by simp; omega)]), hB⟩
theorem two_bytes (s : ByteArray) (h : s.size = 2) : s.data.toList = [s[0], s[1]] := by
  obtain ⟨⟨l⟩⟩ := s
  match l, h with
  | [p, q], _ => rfl
theorem pair_any (s : ByteArray) (w : World) (h : s.size = 2) : Calls Tryd.prog 29 #[.string s] w fun e w' => e = .returned (.int .i64 (pairI s.data.toList)) ∧ Below w.heap.size w w' := by
  have HP : Hid (pairI s.data.toList = if 48 ≤ s[0].toNat ∧ s[0].toNat ≤ 57 ∧ 48 ≤ s[1].toNat ∧ s[1].toNat ≤ 57 then 10 * ((s[0].toNat : Int) - 48) + ((s[1].toNat : Int) - 48) else -1) := by show _ = _; rw [two_bytes s h]; rfl
  generalize pairI s.data.toList = r at HP ⊢
  have b0 := s[0].toNat_lt
  have b1 := s[1].toNat_lt
  by_cases h1 : (48 : Int) ≤ (s[0].toNat : Int)
  · by_cases h2 : (s[0].toNat : Int) ≤ 57
    · by_cases h3 : (48 : Int) ≤ (s[1].toNat : Int)
      · by_cases h4 : (s[1].toNat : Int) ≤ 57
        · have k1 : IntKind.u8.wrap ((s[0].toNat : Int) - 48) = (s[0].toNat : Int) - 48 := by rw [IntKind.wrap_u8]; omega
          have k2 : IntKind.u8.wrap ((s[1].toNat : Int) - 48) = (s[1].toNat : Int) - 48 := by rw [IntKind.wrap_u8]; omega
          go_enter Tryd.func29, Tryd.ntmps29
          go_wp2_with fail
          go_quiet (fail)
          go_wp2
          go_ret
          exact ⟨ret_int (by rw [HP.out, if_pos (by omega)]; omega), bel_drewN (Below.refl _ _) _⟩
        · go_enter Tryd.func29, Tryd.ntmps29
          go_wp2_with fail
          go_ret
          exact ⟨ret_int (by rw [HP.out, if_neg (by omega)]), Below.refl _ _⟩
      · go_enter Tryd.func29, Tryd.ntmps29
        go_wp2_with fail
        go_ret
        exact ⟨ret_int (by rw [HP.out, if_neg (by omega)]), Below.refl _ _⟩
    · go_enter Tryd.func29, Tryd.ntmps29
      go_wp2_with fail
      go_ret
      exact ⟨ret_int (by rw [HP.out, if_neg (by omega)]), Below.refl _ _⟩
  · go_enter Tryd.func29, Tryd.ntmps29
    go_wp2_with fail
    go_ret
    exact ⟨ret_int (by rw [HP.out, if_neg (by omega)]), Below.refl _ _⟩
end Go.Proofs.YtpkjgepchincjaaDoor
