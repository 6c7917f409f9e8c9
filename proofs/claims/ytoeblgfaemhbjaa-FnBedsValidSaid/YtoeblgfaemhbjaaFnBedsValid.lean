/- FnBedsValid: whatever the input, the law returns true, and its arguments read as they did. No conditions beyond those of the statement's row. -/
import Derived.Test.YtoeblgfaemhbjaaQe
import Derived.Test.YtoeblgfaemhbjaaQa
import Derived.Test.YtoeblgfaemhbjaaKw
import Derived.Test.YtoeblgfaemhbjaaQn
import Derived.Test.YtoeblgfaemhbjaaLp
namespace Go.Proofs.Ytoeblgfaemhbjaa.fnBedsValid
open Go.Proofs.Ytoeblgfaemhbjaa
open Go.ChangeShapes Go.WideShapes Go.ChangeAt Go.RowKit Go.Joins
set_option linter.unusedVariables false
set_option linter.unusedSimpArgs false
set_option linter.unnecessarySimpa false

theorem own : ownKnob Try.prog.godebug = none := by kernel_rfl
theorem laidOut : laidOutB Try.prog = true := by kernel_rfl

set_option maxRecDepth 100000 in
set_option maxHeartbeats 4000000 in
theorem walk (w : World) (a0 : Option Addr) (len0 cap0 : Nat) (w0 : CodeOk w a0 len0 cap0) :
    Calls Try.prog 3 #[.slice a0 len0 cap0] w fun e w' => e = .returned (.bool true) ∧ Below w.heap.size w w' := by
  by_cases hl : 1048576 < len0
  · have w0' := w0.2.1
    unfold maxLen at w0'
    clear w0
    go_enter Try.func3, Try.ntmps3
    go_wp2
    go_ret
    exact ⟨rfl, Below.refl _ _⟩
  · have w0' := w0.2.1
    unfold maxLen at w0'
    have hle := w0.1
    have HW := Lib.hid w0
    clear w0
    go_enter Try.func3, Try.ntmps3
    obtain ⟨i0, hi0, hz0, hz1, hz2⟩ := info_parts infoNum
    have HI := Lib.hid (And.intro hi0 (And.intro hz0 (And.intro hz1 hz2)))
    clear hi0 hz0 hz1 hz2
    go_wp2_with fail
    refine (drBedsValid_any _ _ _ _ HW.out).mono ?_; rintro e w1 ⟨xs, A, cp, rfl, hx6, hO1, hB1⟩
    obtain ⟨m, hm⟩ : ∃ m, xs.length = m := ⟨_, rfl⟩
    rw [hm] at hx6 ⊢
    have HM := Lib.hid hm
    clear hm
    obtain ⟨hcp, _⟩ := hO1.cap
    rw [HM.out] at hcp
    rcases hO1.form with ⟨rfl, hx0, rfl⟩ | ⟨g, rfl, _, _⟩
    · obtain rfl : m = 0 := by rw [← HM.out, hx0]; rfl
      have HV : Hid (bsB xs = true) := by show _ = _; rw [hx0]; exact bs_nil9
      have HX0 := Lib.hid hx0
      clear hx0
      have HLEN : Hid ((xs ++ [(-1)]).length = 1) := by show _ = _; rw [List.length_append, HM.out]; rfl
      go_wp2_with fail
      refine (iBe_is none 0 xs _ HM.out hO1.row (by omega) HV.out).mono ?_; rintro e w2 ⟨rfl, hw2⟩
      have hO2 := hO1.next hw2
      have hB2 := bel_next hB1 hw2
      go_wp2_with fail
      refine (sBe_is none 0 xs _ HM.out hO2.row (by omega) HV.out).mono ?_; rintro e w3 ⟨rfl, hw3⟩
      have hO3 := hO2.next hw3
      have hB3 := bel_next hB2 hw3
      have hE0 := SOwn.empty (E := encNum) (base := w.heap.size) (blk_new w3 (.cells #[] 3 (0, 0))) hB3.size
      have hOE := hO3.alloc (.cells #[] 3 (0, 0))
      have hBE := hB3.alloc hB3.size (.cells #[] 3 (0, 0))
      have hzE := hB3.size
      have hE1 : (w3.alloc (.cells #[] 3 (0, 0))).ownsRow w.heap.size 3 1 (.slice (some ⟨w3.heap.size, 0, none⟩) 0 0) 0 [] := hE0
      go_wp2_with (first | (at_builtin; refine append_none_gK (by kernel_rfl) (.tmp 29) (.tmp 30) _ rfl w.heap.size 3 i0 1 Try.underlying23 HI.out.1 (.slice (some ⟨w3.heap.size, 0, none⟩) 0 0) 0 [] rfl hE1 rfl ?_) | (at_builtin; refine append_lies_gK _ (by kernel_rfl) (.tmp 31) (.tmp 32) _ rfl w.heap.size 3 i0 _ 1 8 Try.underlying23 HI.out.1 HI.out.2.1 HI.out.2.2.1 HI.out.2.2.2 rfl (by omega) (.slice (some ⟨w3.heap.size, 0, none⟩) 0 0) 0 [] rfl (World.ownsRow.alloc hE1 _) ⟨_, 0, none⟩ 1 1 (encNum.enc (-1)) rfl rfl (new_enc1 (E := encNum) w3 _ (-1) _) (encNum.one _) (by omega) (by simp only [maxLen]; omega) (by omega) (by simp; omega) _ rfl ?_; intro g6 cap6 w6a hown6 hgr6 hat6 hlt6) | fail)
      have hB6a : Below w.heap.size w w6a := (hBE.alloc hBE.size _).grown hgr6 (hBE.alloc hBE.size _).size (fun j hj => by simp [Value.ownBlock] at hj; omega)
      have hO6a : SOwn encNum w6a w.heap.size 3 (some ⟨g6, 0, none⟩) cap6 (xs ++ [(-1)]) := SOwn.of_raw (E := encNum) hown6 (by rw [HX0.out]; simp [Enc.flat]) (by rw [HX0.out]; simp)
      refine (iBe_is (some ⟨g6, 0, none⟩) cap6 (xs ++ [(-1)]) _ HLEN.out hO6a.row (by omega) (bs_snoc9 xs)).mono ?_; rintro e w7 ⟨rfl, hw7⟩
      have hB7 := bel_next hB6a hw7
      go_wp2_with fail
      refine (iBe_is (n := 0) none 0 [] _ rfl (.inl rfl) (by omega) bs_nil9).mono ?_; rintro e w8 ⟨rfl, hw8⟩
      have hB8 := bel_next hB7 hw8
      go_wp2_with fail
      refine (alive_any _).mono ?_; rintro e w' ⟨rfl, rfl⟩
      go_wp2
      go_ret
      exact ⟨rfl, hB8⟩
    · have HLEN : Hid ((xs ++ [(-1)]).length = m + 1) := by show _ = _; rw [List.length_append, HM.out]; rfl
      cases hv : bsB xs
      · have HV := Lib.hid hv
        clear hv
        go_wp2_with fail
        refine (iBe_is (some ⟨g, 0, none⟩) cp xs _ HM.out hO1.row (by omega) HV.out).mono ?_; rintro e w2 ⟨rfl, hw2⟩
        have hO2 := hO1.next hw2
        have hB2 := bel_next hB1 hw2
        go_wp2_with fail
        refine (sBe_is (some ⟨g, 0, none⟩) cp xs _ HM.out hO2.row (by omega) HV.out).mono ?_; rintro e w3 ⟨rfl, hw3⟩
        have hO3 := hO2.next hw3
        have hB3 := bel_next hB2 hw3
        have hE0 := SOwn.empty (E := encNum) (base := w.heap.size) (blk_new w3 (.cells #[] 3 (0, 0))) hB3.size
        have hOE := hO3.alloc (.cells #[] 3 (0, 0))
        have hBE := hB3.alloc hB3.size (.cells #[] 3 (0, 0))
        have hzE := hB3.size
        have hE1 : (w3.alloc (.cells #[] 3 (0, 0))).ownsRow w.heap.size 3 1 (.slice (some ⟨w3.heap.size, 0, none⟩) 0 0) 0 [] := hE0
        go_wp2_with (first | (at_builtin; refine append_own_gK _ (by kernel_rfl) (.tmp 29) (.tmp 30) _ rfl w.heap.size 3 i0 _ 1 8 Try.underlying23 HI.out.1 HI.out.2.1 HI.out.2.2.1 HI.out.2.2.2 rfl (by omega) (.slice (some ⟨w3.heap.size, 0, none⟩) 0 0) 0 [] rfl hE1 ⟨g, 0, none⟩ m cp (encNum.flat xs) rfl (by rw [encNum.flat_len, HM.out]; rfl) (SRow.newsW hOE.row) (encNum.flat_one _) (by simp only [maxLen]; omega) (by omega) (by simp; omega) ?_; intro v5 w5a hown5 hgr5 hnil5) | (at_builtin; refine append_lies_gK _ (by kernel_rfl) (.tmp 31) (.tmp 32) _ rfl w.heap.size 3 i0 _ 1 8 Try.underlying23 HI.out.1 HI.out.2.1 HI.out.2.2.1 HI.out.2.2.2 rfl (by omega) v5 (0 + m) ([] ++ encNum.flat xs) rfl (World.ownsRow.alloc hown5 _) ⟨_, 0, none⟩ 1 1 (encNum.enc (-1)) rfl rfl (new_enc (E := encNum) w5a (-1) _) (encNum.one _) (by omega) (by simp only [maxLen]; omega) (by omega) (by have h1 := hgr5.size; simp at h1 ⊢; omega) _ rfl ?_; intro g6 cap6 w6a hown6 hgr6 hat6 hlt6) | fail)
        have hB5a : Below w.heap.size w w5a := hBE.grown hgr5 hBE.size (fun j hj => by simp [Value.ownBlock] at hj; omega)
        have hB6a : Below w.heap.size w w6a := (hB5a.alloc hB5a.size _).grown hgr6 (hB5a.alloc hB5a.size _).size (fun j hj => (World.ownsRow.lt hown5 j hj).1)
        have hO6a : SOwn encNum w6a w.heap.size 3 (some ⟨g6, 0, none⟩) cap6 (xs ++ [(-1)]) := SOwn.of_raw (E := encNum) hown6 (by rw [List.nil_append, encNum.flat_snoc]) (by simp [HM.out])
        refine (iBe_is (some ⟨g6, 0, none⟩) cap6 (xs ++ [(-1)]) _ HLEN.out hO6a.row (by omega) (bs_snoc9 xs)).mono ?_; rintro e w7 ⟨rfl, hw7⟩
        have hB7 := bel_next hB6a hw7
        go_wp2_with fail
        refine (iBe_is (n := 0) none 0 [] _ rfl (.inl rfl) (by omega) bs_nil9).mono ?_; rintro e w8 ⟨rfl, hw8⟩
        have hB8 := bel_next hB7 hw8
        go_wp2_with fail
        refine (alive_any _).mono ?_; rintro e w' ⟨rfl, rfl⟩
        go_wp2
        go_ret
        exact ⟨rfl, hB8⟩
      · have HT := Lib.hid (bs_drop9 hv)
        have HV := Lib.hid hv
        clear hv
        by_cases hm0 : m = 0
        · have z0 : ((m : Int) == 0) = true := by rw [beq_iff_eq]; omega
          clear hm0 HT
          go_wp2_with fail
          refine (iBe_is (some ⟨g, 0, none⟩) cp xs _ HM.out hO1.row (by omega) HV.out).mono ?_; rintro e w2 ⟨rfl, hw2⟩
          have hO2 := hO1.next hw2
          have hB2 := bel_next hB1 hw2
          go_wp2_with fail
          refine (sBe_is (some ⟨g, 0, none⟩) cp xs _ HM.out hO2.row (by omega) HV.out).mono ?_; rintro e w3 ⟨rfl, hw3⟩
          have hO3 := hO2.next hw3
          have hB3 := bel_next hB2 hw3
          have hE0 := SOwn.empty (E := encNum) (base := w.heap.size) (blk_new w3 (.cells #[] 3 (0, 0))) hB3.size
          have hOE := hO3.alloc (.cells #[] 3 (0, 0))
          have hBE := hB3.alloc hB3.size (.cells #[] 3 (0, 0))
          have hzE := hB3.size
          have hE1 : (w3.alloc (.cells #[] 3 (0, 0))).ownsRow w.heap.size 3 1 (.slice (some ⟨w3.heap.size, 0, none⟩) 0 0) 0 [] := hE0
          go_wp2_with (first | (at_builtin; refine append_own_gK _ (by kernel_rfl) (.tmp 29) (.tmp 30) _ rfl w.heap.size 3 i0 _ 1 8 Try.underlying23 HI.out.1 HI.out.2.1 HI.out.2.2.1 HI.out.2.2.2 rfl (by omega) (.slice (some ⟨w3.heap.size, 0, none⟩) 0 0) 0 [] rfl hE1 ⟨g, 0, none⟩ m cp (encNum.flat xs) rfl (by rw [encNum.flat_len, HM.out]; rfl) (SRow.newsW hOE.row) (encNum.flat_one _) (by simp only [maxLen]; omega) (by omega) (by simp; omega) ?_; intro v5 w5a hown5 hgr5 hnil5) | (at_builtin; refine append_lies_gK _ (by kernel_rfl) (.tmp 31) (.tmp 32) _ rfl w.heap.size 3 i0 _ 1 8 Try.underlying23 HI.out.1 HI.out.2.1 HI.out.2.2.1 HI.out.2.2.2 rfl (by omega) v5 (0 + m) ([] ++ encNum.flat xs) rfl (World.ownsRow.alloc hown5 _) ⟨_, 0, none⟩ 1 1 (encNum.enc (-1)) rfl rfl (new_enc (E := encNum) w5a (-1) _) (encNum.one _) (by omega) (by simp only [maxLen]; omega) (by omega) (by have h1 := hgr5.size; simp at h1 ⊢; omega) _ rfl ?_; intro g6 cap6 w6a hown6 hgr6 hat6 hlt6) | fail)
          have hB5a : Below w.heap.size w w5a := hBE.grown hgr5 hBE.size (fun j hj => by simp [Value.ownBlock] at hj; omega)
          have hB6a : Below w.heap.size w w6a := (hB5a.alloc hB5a.size _).grown hgr6 (hB5a.alloc hB5a.size _).size (fun j hj => (World.ownsRow.lt hown5 j hj).1)
          have hO6a : SOwn encNum w6a w.heap.size 3 (some ⟨g6, 0, none⟩) cap6 (xs ++ [(-1)]) := SOwn.of_raw (E := encNum) hown6 (by rw [List.nil_append, encNum.flat_snoc]) (by simp [HM.out])
          refine (iBe_is (some ⟨g6, 0, none⟩) cap6 (xs ++ [(-1)]) _ HLEN.out hO6a.row (by omega) (bs_snoc9 xs)).mono ?_; rintro e w7 ⟨rfl, hw7⟩
          have hB7 := bel_next hB6a hw7
          go_wp2_with fail
          refine (iBe_is (n := 0) none 0 [] _ rfl (.inl rfl) (by omega) bs_nil9).mono ?_; rintro e w8 ⟨rfl, hw8⟩
          have hB8 := bel_next hB7 hw8
          go_wp2_with fail
          refine (alive_any _).mono ?_; rintro e w' ⟨rfl, rfl⟩
          go_wp2
          go_ret
          exact ⟨rfl, hB8⟩
        · have z0 : ((m : Int) == 0) = false := by rw [beq_eq_false_iff_ne]; omega
          have hm1 : 1 ≤ m := by omega
          have hmi : (1 : Int) ≤ (m : Int) := by omega
          have HDL : Hid ((xs.drop 1).length = m - 1) := by show _ = _; rw [List.length_drop, HM.out]
          clear hm0
          by_cases hc : cp = 1
          · subst hc
            obtain rfl : m = 1 := by omega
            have HNI : Hid (xs.drop 1 = []) := by show _ = _; exact List.length_eq_zero_iff.1 (by rw [HDL.out])
            go_wp2_with fail
            refine (iBe_is (some ⟨g, 0, none⟩) 1 xs _ HM.out hO1.row (by omega) HV.out).mono ?_; rintro e w2 ⟨rfl, hw2⟩
            have hO2 := hO1.next hw2
            have hB2 := bel_next hB1 hw2
            go_wp2_with fail
            refine (sBe_is (some ⟨g, 0, none⟩) 1 xs _ HM.out hO2.row (by omega) HV.out).mono ?_; rintro e w3 ⟨rfl, hw3⟩
            have hO3 := hO2.next hw3
            have hB3 := bel_next hB2 hw3
            go_wp2_with fail
            refine (iBe_is (some ⟨g, 0, none⟩) 0 (xs.drop 1) _ HDL.out (.inl HNI.out) (by omega) HT.out).mono ?_; rintro e w4 ⟨rfl, hw4⟩
            have hO4 := hO3.next hw4
            have hB4 := bel_next hB3 hw4
            have hE0 := SOwn.empty (E := encNum) (base := w.heap.size) (blk_new w4 (.cells #[] 3 (0, 0))) hB4.size
            have hOE := hO4.alloc (.cells #[] 3 (0, 0))
            have hBE := hB4.alloc hB4.size (.cells #[] 3 (0, 0))
            have hzE := hB4.size
            have hE1 : (w4.alloc (.cells #[] 3 (0, 0))).ownsRow w.heap.size 3 1 (.slice (some ⟨w4.heap.size, 0, none⟩) 0 0) 0 [] := hE0
            go_wp2_with (first | (at_builtin; refine append_own_gK _ (by kernel_rfl) (.tmp 29) (.tmp 30) _ rfl w.heap.size 3 i0 _ 1 8 Try.underlying23 HI.out.1 HI.out.2.1 HI.out.2.2.1 HI.out.2.2.2 rfl (by omega) (.slice (some ⟨w4.heap.size, 0, none⟩) 0 0) 0 [] rfl hE1 ⟨g, 0, none⟩ 1 1 (encNum.flat xs) rfl (by rw [encNum.flat_len, HM.out]; rfl) (SRow.newsW hOE.row) (encNum.flat_one _) (by simp only [maxLen]; omega) (by omega) (by simp; omega) ?_; intro v5 w5a hown5 hgr5 hnil5) | (at_builtin; refine append_lies_gK _ (by kernel_rfl) (.tmp 31) (.tmp 32) _ rfl w.heap.size 3 i0 _ 1 8 Try.underlying23 HI.out.1 HI.out.2.1 HI.out.2.2.1 HI.out.2.2.2 rfl (by omega) v5 (0 + 1) ([] ++ encNum.flat xs) rfl (World.ownsRow.alloc hown5 _) ⟨_, 0, none⟩ 1 1 (encNum.enc (-1)) rfl rfl (new_enc (E := encNum) w5a (-1) _) (encNum.one _) (by omega) (by simp only [maxLen]; omega) (by omega) (by have h1 := hgr5.size; simp at h1 ⊢; omega) _ rfl ?_; intro g6 cap6 w6a hown6 hgr6 hat6 hlt6) | fail)
            have hB5a : Below w.heap.size w w5a := hBE.grown hgr5 hBE.size (fun j hj => by simp [Value.ownBlock] at hj; omega)
            have hB6a : Below w.heap.size w w6a := (hB5a.alloc hB5a.size _).grown hgr6 (hB5a.alloc hB5a.size _).size (fun j hj => (World.ownsRow.lt hown5 j hj).1)
            have hO6a : SOwn encNum w6a w.heap.size 3 (some ⟨g6, 0, none⟩) cap6 (xs ++ [(-1)]) := SOwn.of_raw (E := encNum) hown6 (by rw [List.nil_append, encNum.flat_snoc]) (by simp [HM.out])
            refine (iBe_is (some ⟨g6, 0, none⟩) cap6 (xs ++ [(-1)]) _ HLEN.out hO6a.row (by omega) (bs_snoc9 xs)).mono ?_; rintro e w7 ⟨rfl, hw7⟩
            have hB7 := bel_next hB6a hw7
            go_wp2_with fail
            refine (iBe_is (n := 0) none 0 [] _ rfl (.inl rfl) (by omega) bs_nil9).mono ?_; rintro e w8 ⟨rfl, hw8⟩
            have hB8 := bel_next hB7 hw8
            go_wp2_with fail
            refine (alive_any _).mono ?_; rintro e w' ⟨rfl, rfl⟩
            go_wp2
            go_ret
            exact ⟨rfl, hB8⟩
          · go_wp2_with fail
            refine (iBe_is (some ⟨g, 0, none⟩) cp xs _ HM.out hO1.row (by omega) HV.out).mono ?_; rintro e w2 ⟨rfl, hw2⟩
            have hO2 := hO1.next hw2
            have hB2 := bel_next hB1 hw2
            go_wp2_with fail
            refine (sBe_is (some ⟨g, 0, none⟩) cp xs _ HM.out hO2.row (by omega) HV.out).mono ?_; rintro e w3 ⟨rfl, hw3⟩
            have hO3 := hO2.next hw3
            have hB3 := bel_next hB2 hw3
            go_wp2_with fail
            refine (iBe_is (some ⟨g, 1, none⟩) (cp - 1) (xs.drop 1) _ HDL.out (SOwn.tailW hO3) (by omega) HT.out).mono ?_; rintro e w4 ⟨rfl, hw4⟩
            have hO4 := hO3.next hw4
            have hB4 := bel_next hB3 hw4
            have hE0 := SOwn.empty (E := encNum) (base := w.heap.size) (blk_new w4 (.cells #[] 3 (0, 0))) hB4.size
            have hOE := hO4.alloc (.cells #[] 3 (0, 0))
            have hBE := hB4.alloc hB4.size (.cells #[] 3 (0, 0))
            have hzE := hB4.size
            have hE1 : (w4.alloc (.cells #[] 3 (0, 0))).ownsRow w.heap.size 3 1 (.slice (some ⟨w4.heap.size, 0, none⟩) 0 0) 0 [] := hE0
            go_wp2_with (first | (at_builtin; refine append_own_gK _ (by kernel_rfl) (.tmp 29) (.tmp 30) _ rfl w.heap.size 3 i0 _ 1 8 Try.underlying23 HI.out.1 HI.out.2.1 HI.out.2.2.1 HI.out.2.2.2 rfl (by omega) (.slice (some ⟨w4.heap.size, 0, none⟩) 0 0) 0 [] rfl hE1 ⟨g, 0, none⟩ m cp (encNum.flat xs) rfl (by rw [encNum.flat_len, HM.out]; rfl) (SRow.newsW hOE.row) (encNum.flat_one _) (by simp only [maxLen]; omega) (by omega) (by simp; omega) ?_; intro v5 w5a hown5 hgr5 hnil5) | (at_builtin; refine append_lies_gK _ (by kernel_rfl) (.tmp 31) (.tmp 32) _ rfl w.heap.size 3 i0 _ 1 8 Try.underlying23 HI.out.1 HI.out.2.1 HI.out.2.2.1 HI.out.2.2.2 rfl (by omega) v5 (0 + m) ([] ++ encNum.flat xs) rfl (World.ownsRow.alloc hown5 _) ⟨_, 0, none⟩ 1 1 (encNum.enc (-1)) rfl rfl (new_enc (E := encNum) w5a (-1) _) (encNum.one _) (by omega) (by simp only [maxLen]; omega) (by omega) (by have h1 := hgr5.size; simp at h1 ⊢; omega) _ rfl ?_; intro g6 cap6 w6a hown6 hgr6 hat6 hlt6) | fail)
            have hB5a : Below w.heap.size w w5a := hBE.grown hgr5 hBE.size (fun j hj => by simp [Value.ownBlock] at hj; omega)
            have hB6a : Below w.heap.size w w6a := (hB5a.alloc hB5a.size _).grown hgr6 (hB5a.alloc hB5a.size _).size (fun j hj => (World.ownsRow.lt hown5 j hj).1)
            have hO6a : SOwn encNum w6a w.heap.size 3 (some ⟨g6, 0, none⟩) cap6 (xs ++ [(-1)]) := SOwn.of_raw (E := encNum) hown6 (by rw [List.nil_append, encNum.flat_snoc]) (by simp [HM.out])
            refine (iBe_is (some ⟨g6, 0, none⟩) cap6 (xs ++ [(-1)]) _ HLEN.out hO6a.row (by omega) (bs_snoc9 xs)).mono ?_; rintro e w7 ⟨rfl, hw7⟩
            have hB7 := bel_next hB6a hw7
            go_wp2_with fail
            refine (iBe_is (n := 0) none 0 [] _ rfl (.inl rfl) (by omega) bs_nil9).mono ?_; rintro e w8 ⟨rfl, hw8⟩
            have hB8 := bel_next hB7 hw8
            go_wp2_with fail
            refine (alive_any _).mono ?_; rintro e w' ⟨rfl, rfl⟩
            go_wp2
            go_ret
            exact ⟨rfl, hB8⟩

set_option maxRecDepth 100000 in
theorem lifted (os : Os) (started : os.Started) (H : Type) (enc : TypeId × Value → H) :
    ReturnsInHanded {} Try.checked os 3 .any (Rows.fnBedsValidSpec.pre6 enc Try.prog Try.f3 Rows.fnBedsValidRow.domain false) (Rows.fnBedsValidSpec.post enc Try.prog Try.f3 false true false false) := by
  refine returnsInHanded_of_change (C := Try.checked) own started (by kernel_rfl) Try.func3
    (ChangeSpec.witness6 (enc := enc) (C := Try.checked) false ⟨#[], #[.slice none 0 0], []⟩ 8 (by kernel_rfl) (by kernel_rfl) (by kernel_rfl) (by kernel_rfl)) ?_
  intro W base args ds gs before hval0 hW hcnd _
  have hval : ∀ (j : Nat) t v, Try.f3.params[j]? = some t → args[j]? = some v → Value.okWide Try.prog W .any base t v := hval0
  have hW' := hW
  obtain ⟨p, q, hA0, hV, rfl, hfz, hnd⟩ := hW
  have hA : DataW.TrodAll enc Try.prog W 0 (fun _ => true) true Try.f3.params.toList args.toList ds p := hA0
  rw [Try.params3] at hA hval
  obtain ⟨v0, vs0, d0, ds0, p0, q0, hargs, rfl, rfl, h0, r0⟩ := trodAll_cons hA
  obtain ⟨rfl, rfl, rfl⟩ := trodAll_nil r0
  obtain rfl : args = #[v0] := by cases args; simp_all
  obtain ⟨rfl, rfl⟩ := trodVars_none hV
  have k0 := h0
  have lt0 : ∀ x ∈ p0, x.block < W.heap.size := by obtain ⟨m, hm⟩ := k0; exact DataW.trod_lt m _ _ _ hm
  obtain ⟨a0, len0, cap0, rfl⟩ := okWide_slice Try.underlying22 (hval 0 22 v0 rfl rfl)
  have w0 : CodeOk W a0 len0 cap0 := by
    obtain ⟨fuel, hf⟩ := h0
    rcases open_ints Try.underlying22 Try.underlying5 (by kernel_rfl) hf with ⟨hcs, _⟩ | ⟨x, l, c, zs, hcs, _, hl, hm, hz, _, hcell, hwz⟩
    · simp [Value.cells] at hcs
      obtain ⟨rfl, rfl, rfl⟩ := hcs
      exact code_nil W
    · simp [Value.cells] at hcs
      obtain ⟨rfl, rfl, rfl⟩ := hcs
      exact code_ok hl hm (by simp at hz; omega) hcell hwz
  clear hA0 hval0
  refine (walk W a0 len0 cap0 w0).mono fun e W' ⟨he, bel⟩ => ?_
  subst he
  exact ⟨_, rfl, _, _, _, [], _, [], hW', trodAll_mk1 (shut_bool Try.underlying4 _), (trodAll_cons_mk (Below.trod laidOut (by kernel_rfl) (of_decide_eq_true (by kernel_rfl)) k0 bel lt0) trodAll_mk0), rfl, bel.frame _, fun h => by cases h⟩

theorem over : Rows.fnBedsValidRow.holds Try.pinned (OpenSpec.ofChange Rows.fnBedsValidSpec) :=
  OpenClaim.holds_of_wide 3 Try.f3 rfl rfl rfl rfl rfl rfl rfl ⟨rfl, rfl, rfl, rfl, rfl⟩ rfl rfl rfl rfl rfl (by kernel_rfl) Try.func3 (by kernel_rfl)
    (of_decide_eq_true (by kernel_rfl)) (by unfold Func.isWrapper; first | (rw [if_pos (by decide +kernel)]; kernel_rfl) | (rw [if_neg (by decide +kernel)]; exact ⟨rfl, rfl⟩))
    (fun os started H enc _ => lifted os started H enc)

/-- The statement. -/
theorem proved : Rows.FnBedsValidSaid :=
  over
#print axioms proved
end Go.Proofs.Ytoeblgfaemhbjaa.fnBedsValid
