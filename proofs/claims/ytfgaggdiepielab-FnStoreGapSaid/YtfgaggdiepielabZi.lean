/- Contracts of chapter 7: stores. -/
import Derived.Test.YtfgaggdiepielabZh
import Derived.Laws.AppendOwn
namespace Go.Proofs.Ytfgaggdiepielab
open Go Go.ChangeShapes Go.WideShapes Go.ChangeAt Go.RowKit
set_option linter.unusedSimpArgs false
set_option linter.unusedVariables false

def DayRet (l : List Int) (a z : Int) (w : World) (e : Ending) (w' : World) : Prop := ∃ (A : Option Addr) (cap : Nat), e = .returned (.tuple #[.slice A l.length cap, .int .i64 a, .int .i64 z]) ∧ SOwn encNum w' w.heap.size 3 A cap l ∧ Below w.heap.size w w'
theorem ret_day {A : Option Addr} {n m c : Nat} {a z : Int} (h : n = m) : Ending.returned (.tuple #[.slice A n c, .int .i64 a, .int .i64 z]) = .returned (.tuple #[.slice A m c, .int .i64 a, .int .i64 z]) := by rw [h]
set_option maxRecDepth 100000 in
set_option maxHeartbeats 4000000 in
theorem iSd_any (A : Option Addr) (cap : Nat) (xs : List VHour) {n : Nat} {holds has : Int} (w : World) (hn : xs.length = n) (h : SRow encHour w A xs) (hl : n ≤ 2000000) :
    Calls Try.prog 44 #[.slice A n cap, .int .i64 holds, .int .i64 has] w fun E w' => DayRet (stL xs holds has) (laI xs holds has) (loI xs holds has) w E w' := by
  obtain ⟨i0, hi0, hz0, hz1, hz2⟩ := info_parts infoNum
  have HI := Lib.hid (And.intro hi0 (And.intro hz0 (And.intro hz1 hz2)))
  clear hi0 hz0 hz1 hz2
  cases hb9 : stB xs holds has
  · have e1 : stL xs holds has = [] := by unfold stL; rw [hb9]; rfl
    have e2 : laI xs holds has = -1 := by unfold laI; rw [hb9]; rfl
    have e3 : loI xs holds has = -1 := by unfold loI; rw [hb9]; rfl
    rw [e1, e2, e3]
    clear e1 e2 e3
    rcases stB_false hb9 with hv | ⟨hv, h2⟩ | ⟨hv, h2, h3⟩
    · have HV := Lib.hid hv
      clear hv hb9
      have HN := Lib.hid hn
      clear hn
      go_enter Try.func44, Try.ntmps44
      go_wp2_with fail
      refine (iHv_is A cap xs _ HN.out h hl HV.out).mono ?_; rintro E w1 ⟨rfl, hw1⟩
      go_wp2
      go_ret3
      exact ⟨none, 0, rfl, SOwn.nil _ _ _, hw1⟩
    · have HV := Lib.hid hv
      have H2_ := Lib.hid h2
      clear hv h2 hb9
      have HN := Lib.hid hn
      clear hn
      go_enter Try.func44, Try.ntmps44
      go_wp2_with fail
      refine (iHv_is A cap xs _ HN.out h hl HV.out).mono ?_; rintro E w1 ⟨rfl, hw1⟩
      go_wp2_with fail
      refine (iIn7_is _ H2_.out).mono ?_; rintro E w' ⟨rfl, rfl⟩
      go_wp2
      go_ret3
      exact ⟨none, 0, rfl, SOwn.nil _ _ _, hw1⟩
    · have HV := Lib.hid hv
      have H2_ := Lib.hid h2
      have H3_ := Lib.hid h3
      clear hv h2 h3 hb9
      have HN := Lib.hid hn
      clear hn
      go_enter Try.func44, Try.ntmps44
      go_wp2_with fail
      refine (iHv_is A cap xs _ HN.out h hl HV.out).mono ?_; rintro E w1 ⟨rfl, hw1⟩
      go_wp2_with fail
      refine (iIn7_is _ H2_.out).mono ?_; rintro E w' ⟨rfl, rfl⟩
      go_wp2_with fail
      refine (iIn7_is _ H3_.out).mono ?_; rintro E w' ⟨rfl, rfl⟩
      go_wp2
      go_ret3
      exact ⟨none, 0, rfl, SOwn.nil _ _ _, hw1⟩
  · have e1 : stL xs holds has = stR holds has xs := by unfold stL; rw [hb9]; rfl
    have e2 : laI xs holds has = laR holds has xs := by unfold laI; rw [hb9]; rfl
    have e3 : loI xs holds has = loR holds has xs := by unfold loI; rw [hb9]; rfl
    rw [e1, e2, e3]
    clear e1 e2 e3
    obtain ⟨hv, h00, h01, h02, h03⟩ := stB_iff.1 hb9
    obtain ⟨_, hi2, hi3⟩ := stB_true hb9
    have hn10 : n ≤ 10 := by have := (hrB_iff.1 hv).1; omega
    have HV := Lib.hid hv
    have H2_ := Lib.hid hi2
    have H3_ := Lib.hid hi3
    have HN := Lib.hid hn
    clear hv hi2 hi3 hn
    clear hb9
    go_enter Try.func44, Try.ntmps44
    go_wp2_with fail
    refine (iHv_is A cap xs _ HN.out h hl HV.out).mono ?_; rintro E w1 ⟨rfl, hw1⟩
    go_wp2_with fail
    refine (iIn7_is _ H2_.out).mono ?_; rintro E w' ⟨rfl, rfl⟩
    go_wp2_with fail
    refine (iIn7_is _ H3_.out).mono ?_; rintro E w' ⟨rfl, rfl⟩
    go_wp2_with fail
    go_loopw [2, 9, 10, 11, 31] (fun sv rv av zv i wr => ∃ (k m cv : Nat) (V : Option Addr) (us : List Int), k ≤ n ∧ m = k ∧ i = .int .i64 k ∧ rv = .slice V m cv ∧ sv = .int .i64 (stE holds has (xs.take k)) ∧ av = .int .i64 (laR holds has (xs.take k)) ∧ zv = .int .i64 (loR holds has (xs.take k)) ∧ Hid (us.length = m) ∧ Hid (us = stR holds has (xs.take k)) ∧ SOwn encNum wr w.heap.size 3 V cv us ∧ Below w.heap.size w wr) (fun _ _ _ _ i _ => (n - intOf i).toNat)
    case atStart => exact ⟨0, 0, 0, none, [], by omega, rfl, rfl, rfl, rfl, rfl, rfl, (by show _ = _; rfl), (by show _ = _; rfl), SOwn.nil _ _ _, hw1⟩
    case round =>
      obtain ⟨k, m, cv, V, us, k1, mk, rfl, rfl, rfl, rfl, rfl, HM, HU, hO, hB⟩ := hrel
      have MK := Lib.hid mk
      have hm10 : m ≤ 10 := by omega
      by_cases hlt : k < n
      · clear mk
        have hk : k < xs.length := by rw [HN.out]; exact hlt
        have hki : (k : Int) < (n : Int) := by omega
        obtain ⟨b, off, rfl, hb, c0, c1⟩ := rowHour (h.next hB) hk
        obtain ⟨hg0, hg1, hd0, hd1⟩ := hrB_at HV.out hk
        have hs1 := stE_step (holds := holds) (has := has) hk
        have hs2 := stR_step (holds := holds) (has := has) hk
        have hs3 := laR_step (holds := holds) (has := has) hk
        have hs4 := loR_step (holds := holds) (has := has) hk
        obtain ⟨hb0, hb1⟩ := stE_bd h00 (xs.take k) has h02 h03
        have hla := laR_bd h00 (xs.take k) has h02 (fun x hx => (hrB_iff.1 HV.out).2 x (List.mem_of_mem_take hx))
        have hlo := loR_bd h00 (xs.take k) has h03 (fun x hx => (hrB_iff.1 HV.out).2 x (List.mem_of_mem_take hx))
        have hla0 := laR_nn holds (xs.take k) has
        have hlo0 := loR_nn holds (xs.take k) has
        have hlt9 : (xs.take k).length ≤ 10 := by rw [List.length_take]; omega
        have hk10 : k < 10 := by omega
        unfold stS at hs1 hs2
        unfold laS at hs3
        unfold loS at hs4
        generalize xs[k].1 = g at c0 hg0 hg1 hs1 hs2 hs3 hs4
        generalize xs[k].2 = d at c1 hd0 hd1 hs1 hs2 hs3 hs4
        generalize stE holds has (xs.take k) = s at hb0 hb1 hs1 hs2 hs3 hs4 ⊢
        generalize laR holds has (xs.take k) = a at hs3 hla hla0 ⊢
        generalize loR holds has (xs.take k) = z at hs4 hlo hlo0 ⊢
        by_cases hx0 : s + g - d < 0
        · have e1 : min (max (s + g - d) 0) holds = 0 := by omega
          have e3 : max (-(s + g - d)) 0 = -(s + g - d) := by omega
          have e4 : max (s + g - d - holds) 0 = 0 := by omega
          rw [e1] at hs1 hs2
          rw [e3] at hs3
          rw [e4] at hs4
          clear e1 e3 e4
          have H1 := Lib.hid hs1
          have H2 := Lib.hid hs2
          have H3 := Lib.hid hs3
          have H4 := Lib.hid hs4
          clear hs1 hs2 hs3 hs4
          have hn1 : 0 < -(s + g - d) := by omega
          have hn2 : s + g - d - holds < 0 := by omega
          have hn3 : ¬ holds < 0 := by omega
          have wz1 : IntKind.i64.wrap (s + g) = s + g := IntWalk.i64_in _ (by omega)
          have wz2 : IntKind.i64.wrap (s + g - d) = s + g - d := IntWalk.i64_in _ (by omega)
          have i1 : (if s + g - d < 0 then (0 : Int) else s + g - d) = 0 := if_pos hx0
          have i2 : (if holds < 0 then holds else (0 : Int)) = 0 := if_neg hn3
          have hcp := hB.size
          have hOb := hO.alloc (.cells #[.int .i64 g, .int .i64 d] 27)
          have hBb := hB.alloc hB.size (.cells #[.int .i64 g, .int .i64 d] 27)
          have hOa := hOb.alloc (.cells (encNum.enc (0)).toArray 3)
          go_wp2_with (at_builtin; refine wpList_append_lies _ rfl (.tmp 57) (.tmp 59) _ rfl w.heap.size 3 i0 _ 1 8 Try.underlying32 HI.out.1 HI.out.2.1 HI.out.2.2.1 HI.out.2.2.2 rfl (by omega) (.slice V m cv) m (encNum.flat us) rfl (by unfold SOwn at hOa; rw [HM.out] at hOa; exact hOa) ⟨wr.heap.size + 1, 0, none⟩ 1 1 (encNum.enc (0)) rfl rfl (new_enc1 (E := encNum) wr (.cells #[.int .i64 g, .int .i64 d] 27) (0) _) (encNum.one _) (by omega) (by simp only [maxLen]; omega) (by omega) (by simp; omega) _ rfl ?_; intro g5 cap5 w5 hown5 hgr5 hat5 hlt5)
          have hB5 := SOwn.below_grown (n := m) hOa (hBb.alloc hBb.size _) hgr5
          have hsn := SOwn.snoc (E := encNum) (xs := us) (x := 0) (by rw [HM.out]; exact hown5)
          go_wp2_with fail
          go_roundw
          case rel =>
            exact ⟨k + 1, m + 1, cap5, some ⟨g5, 0, none⟩, us ++ [0], by omega, by rw [MK.out], by go_num, rfl, (by refine congrArg _ (Eq.trans ?_ H1.out.symm); (try rw [IntWalk.i64_in _ (by omega)]); (try omega)), (by refine congrArg _ (Eq.trans ?_ H3.out.symm); (try rw [IntWalk.i64_in _ (by omega)]); (try omega)), (by refine congrArg _ (Eq.trans ?_ H4.out.symm); (try rw [IntWalk.i64_in _ (by omega)]); (try omega)), Lib.hid (by rw [List.length_append, HM.out]; rfl), Lib.hid (by rw [H2.out, HU.out]), hsn, hB5⟩
          case measure => simp [intOf]; omega
        · by_cases hx1 : holds < s + g - d
          · have e1 : min (max (s + g - d) 0) holds = holds := by omega
            have e3 : max (-(s + g - d)) 0 = 0 := by omega
            have e4 : max (s + g - d - holds) 0 = s + g - d - holds := by omega
            rw [e1] at hs1 hs2
            rw [e3] at hs3
            rw [e4] at hs4
            clear e1 e3 e4
            have H1 := Lib.hid hs1
            have H2 := Lib.hid hs2
            have H3 := Lib.hid hs3
            have H4 := Lib.hid hs4
            clear hs1 hs2 hs3 hs4
            have hn1 : -(s + g - d) < 0 := by omega
            have hn2 : 0 < s + g - d - holds := by omega
            have wz1 : IntKind.i64.wrap (s + g) = s + g := IntWalk.i64_in _ (by omega)
            have wz2 : IntKind.i64.wrap (s + g - d) = s + g - d := IntWalk.i64_in _ (by omega)
            have i1 : (if s + g - d < 0 then (0 : Int) else s + g - d) = s + g - d := if_neg hx0
            have i2 : (if holds < s + g - d then holds else s + g - d) = holds := if_pos hx1
            have hcp := hB.size
            have hOb := hO.alloc (.cells #[.int .i64 g, .int .i64 d] 27)
            have hBb := hB.alloc hB.size (.cells #[.int .i64 g, .int .i64 d] 27)
            have hOa := hOb.alloc (.cells (encNum.enc (holds)).toArray 3)
            go_wp2_with (at_builtin; refine wpList_append_lies _ rfl (.tmp 57) (.tmp 59) _ rfl w.heap.size 3 i0 _ 1 8 Try.underlying32 HI.out.1 HI.out.2.1 HI.out.2.2.1 HI.out.2.2.2 rfl (by omega) (.slice V m cv) m (encNum.flat us) rfl (by unfold SOwn at hOa; rw [HM.out] at hOa; exact hOa) ⟨wr.heap.size + 1, 0, none⟩ 1 1 (encNum.enc (holds)) rfl rfl (new_enc1 (E := encNum) wr (.cells #[.int .i64 g, .int .i64 d] 27) (holds) _) (encNum.one _) (by omega) (by simp only [maxLen]; omega) (by omega) (by simp; omega) _ rfl ?_; intro g5 cap5 w5 hown5 hgr5 hat5 hlt5)
            have hB5 := SOwn.below_grown (n := m) hOa (hBb.alloc hBb.size _) hgr5
            have hsn := SOwn.snoc (E := encNum) (xs := us) (x := holds) (by rw [HM.out]; exact hown5)
            go_wp2_with fail
            go_roundw
            case rel =>
              exact ⟨k + 1, m + 1, cap5, some ⟨g5, 0, none⟩, us ++ [holds], by omega, by rw [MK.out], by go_num, rfl, (by refine congrArg _ (Eq.trans ?_ H1.out.symm); (try rw [IntWalk.i64_in _ (by omega)]); (try omega)), (by refine congrArg _ (Eq.trans ?_ H3.out.symm); (try rw [IntWalk.i64_in _ (by omega)]); (try omega)), (by refine congrArg _ (Eq.trans ?_ H4.out.symm); (try rw [IntWalk.i64_in _ (by omega)]); (try omega)), Lib.hid (by rw [List.length_append, HM.out]; rfl), Lib.hid (by rw [H2.out, HU.out]), hsn, hB5⟩
            case measure => simp [intOf]; omega
          · have e1 : min (max (s + g - d) 0) holds = s + g - d := by omega
            have e3 : max (-(s + g - d)) 0 = 0 := by omega
            have e4 : max (s + g - d - holds) 0 = 0 := by omega
            rw [e1] at hs1 hs2
            rw [e3] at hs3
            rw [e4] at hs4
            clear e1 e3 e4
            have H1 := Lib.hid hs1
            have H2 := Lib.hid hs2
            have H3 := Lib.hid hs3
            have H4 := Lib.hid hs4
            clear hs1 hs2 hs3 hs4
            have hn1 : ¬ 0 < -(s + g - d) := by omega
            have hn2 : ¬ 0 < s + g - d - holds := by omega
            have wz1 : IntKind.i64.wrap (s + g) = s + g := IntWalk.i64_in _ (by omega)
            have wz2 : IntKind.i64.wrap (s + g - d) = s + g - d := IntWalk.i64_in _ (by omega)
            have i1 : (if s + g - d < 0 then (0 : Int) else s + g - d) = s + g - d := if_neg hx0
            have i2 : (if holds < s + g - d then holds else s + g - d) = s + g - d := if_neg hx1
            have hcp := hB.size
            have hOb := hO.alloc (.cells #[.int .i64 g, .int .i64 d] 27)
            have hBb := hB.alloc hB.size (.cells #[.int .i64 g, .int .i64 d] 27)
            have hOa := hOb.alloc (.cells (encNum.enc (s + g - d)).toArray 3)
            go_wp2_with (at_builtin; refine wpList_append_lies _ rfl (.tmp 57) (.tmp 59) _ rfl w.heap.size 3 i0 _ 1 8 Try.underlying32 HI.out.1 HI.out.2.1 HI.out.2.2.1 HI.out.2.2.2 rfl (by omega) (.slice V m cv) m (encNum.flat us) rfl (by unfold SOwn at hOa; rw [HM.out] at hOa; exact hOa) ⟨wr.heap.size + 1, 0, none⟩ 1 1 (encNum.enc (s + g - d)) rfl rfl (new_enc1 (E := encNum) wr (.cells #[.int .i64 g, .int .i64 d] 27) (s + g - d) _) (encNum.one _) (by omega) (by simp only [maxLen]; omega) (by omega) (by simp; omega) _ rfl ?_; intro g5 cap5 w5 hown5 hgr5 hat5 hlt5)
            have hB5 := SOwn.below_grown (n := m) hOa (hBb.alloc hBb.size _) hgr5
            have hsn := SOwn.snoc (E := encNum) (xs := us) (x := s + g - d) (by rw [HM.out]; exact hown5)
            go_wp2_with fail
            go_roundw
            case rel =>
              exact ⟨k + 1, m + 1, cap5, some ⟨g5, 0, none⟩, us ++ [s + g - d], by omega, by rw [MK.out], by go_num, rfl, (by refine congrArg _ (Eq.trans ?_ H1.out.symm); (try rw [IntWalk.i64_in _ (by omega)]); (try omega)), (by refine congrArg _ (Eq.trans ?_ H3.out.symm); (try rw [IntWalk.i64_in _ (by omega)]); (try omega)), (by refine congrArg _ (Eq.trans ?_ H4.out.symm); (try rw [IntWalk.i64_in _ (by omega)]); (try omega)), Lib.hid (by rw [List.length_append, HM.out]; rfl), Lib.hid (by rw [H2.out, HU.out]), hsn, hB5⟩
            case measure => simp [intOf]; omega
      · obtain rfl : k = n := by omega
        have e9 : xs.take k = xs := List.take_of_length_le (by rw [HN.out]; omega)
        have HE9 := Lib.hid e9
        clear e9 mk
        go_wp2_with fail
        go_ret3
        exact ⟨V, cv, by rw [HE9.out]; exact ret_day (by rw [stR_len, HN.out, MK.out]), by rw [← HE9.out, ← HU.out]; exact hO, hB⟩
set_option maxHeartbeats 4000000 in
theorem iSr_is (A : Option Addr) (cap : Nat) (xs : List VHour) {n : Nat} {holds has : Int} {l : List Int} (w : World) (hn : xs.length = n) (h : SRow encHour w A xs) (hl : n ≤ 2000000) (hr : stL xs holds has = l) :
    Calls Try.prog 16 #[.slice A n cap, .int .i64 holds, .int .i64 has] w fun E w' => NumsRet8 l w E w' := by
  subst hr
  go_enter Try.func16, Try.ntmps16
  go_wp2_with fail
  refine (iSd_any A cap xs _ hn h hl).mono ?_; rintro E w1 ⟨V, cv, rfl, hO, hw1⟩
  go_wp2
  go_ret
  exact ⟨V, cv, rfl, hO, hw1⟩
set_option maxHeartbeats 4000000 in
theorem iSl_is (A : Option Addr) (cap : Nat) (xs : List VHour) {n : Nat} {holds has r : Int} (w : World) (hn : xs.length = n) (h : SRow encHour w A xs) (hl : n ≤ 2000000) (hr : laI xs holds has = r) :
    Calls Try.prog 20 #[.slice A n cap, .int .i64 holds, .int .i64 has] w fun E w' => E = .returned (.int .i64 r) ∧ Below w.heap.size w w' := by
  subst hr
  go_enter Try.func20, Try.ntmps20
  go_wp2_with fail
  refine (iSd_any A cap xs _ hn h hl).mono ?_; rintro E w1 ⟨V, cv, rfl, hO, hw1⟩
  go_wp2
  go_ret
  exact ⟨rfl, hw1⟩
set_option maxHeartbeats 4000000 in
theorem iSo_is (A : Option Addr) (cap : Nat) (xs : List VHour) {n : Nat} {holds has r : Int} (w : World) (hn : xs.length = n) (h : SRow encHour w A xs) (hl : n ≤ 2000000) (hr : loI xs holds has = r) :
    Calls Try.prog 22 #[.slice A n cap, .int .i64 holds, .int .i64 has] w fun E w' => E = .returned (.int .i64 r) ∧ Below w.heap.size w w' := by
  subst hr
  go_enter Try.func22, Try.ntmps22
  go_wp2_with fail
  refine (iSd_any A cap xs _ hn h hl).mono ?_; rintro E w1 ⟨V, cv, rfl, hO, hw1⟩
  go_wp2
  go_ret
  exact ⟨rfl, hw1⟩
set_option maxHeartbeats 4000000 in
theorem sOk_is (A : Option Addr) (cap : Nat) (xs : List VHour) {n : Nat} {holds has : Int} {r : Bool} (w : World) (hn : xs.length = n) (h : SRow encHour w A xs) (hl : n ≤ 2000000) (hr : stB xs holds has = r) :
    Calls Try.prog 45 #[.slice A n cap, .int .i64 holds, .int .i64 has] w fun E w' => E = .returned (.bool r) ∧ Below w.heap.size w w' := by
  cases r
  · have hb9 := hr
    clear hr
    rcases stB_false hb9 with hv | ⟨hv, h2⟩ | ⟨hv, h2, h3⟩
    · have HV := Lib.hid hv
      clear hv hb9
      have HN := Lib.hid hn
      clear hn
      go_enter Try.func45, Try.ntmps45
      go_wp2_with fail
      refine (sHv_is A cap xs _ HN.out h hl HV.out).mono ?_; rintro E w1 ⟨rfl, hw1⟩
      go_wp2
      go_ret
      exact ⟨rfl, hw1⟩
    · have HV := Lib.hid hv
      have H2_ := Lib.hid h2
      clear hv h2 hb9
      have HN := Lib.hid hn
      clear hn
      go_enter Try.func45, Try.ntmps45
      go_wp2_with fail
      refine (sHv_is A cap xs _ HN.out h hl HV.out).mono ?_; rintro E w1 ⟨rfl, hw1⟩
      go_wp2_with fail
      refine (sIn7_is _ H2_.out).mono ?_; rintro E w' ⟨rfl, rfl⟩
      go_wp2
      go_ret
      exact ⟨rfl, hw1⟩
    · have HV := Lib.hid hv
      have H2_ := Lib.hid h2
      have H3_ := Lib.hid h3
      clear hv h2 h3 hb9
      have HN := Lib.hid hn
      clear hn
      go_enter Try.func45, Try.ntmps45
      go_wp2_with fail
      refine (sHv_is A cap xs _ HN.out h hl HV.out).mono ?_; rintro E w1 ⟨rfl, hw1⟩
      go_wp2_with fail
      refine (sIn7_is _ H2_.out).mono ?_; rintro E w' ⟨rfl, rfl⟩
      go_wp2_with fail
      refine (sIn7_is _ H3_.out).mono ?_; rintro E w' ⟨rfl, rfl⟩
      go_wp2
      go_ret
      exact ⟨rfl, hw1⟩
  · have hb9 := hr
    clear hr
    obtain ⟨hv, h00, h01, h02, h03⟩ := stB_iff.1 hb9
    obtain ⟨_, hi2, hi3⟩ := stB_true hb9
    have hn10 : n ≤ 10 := by have := (hrB_iff.1 hv).1; omega
    have HV := Lib.hid hv
    have H2_ := Lib.hid hi2
    have H3_ := Lib.hid hi3
    have HN := Lib.hid hn
    clear hv hi2 hi3 hn
    clear hb9
    go_enter Try.func45, Try.ntmps45
    go_wp2_with fail
    refine (sHv_is A cap xs _ HN.out h hl HV.out).mono ?_; rintro E w1 ⟨rfl, hw1⟩
    go_wp2_with fail
    refine (sIn7_is _ H2_.out).mono ?_; rintro E w' ⟨rfl, rfl⟩
    go_wp2_with fail
    refine (sIn7_is _ H3_.out).mono ?_; rintro E w' ⟨rfl, rfl⟩
    go_wp2
    go_ret
    exact ⟨rfl, hw1⟩
set_option maxRecDepth 100000 in
set_option maxHeartbeats 4000000 in
theorem sSr_is (A : Option Addr) (cap : Nat) (xs : List VHour) {n : Nat} {holds has : Int} {l : List Int} (w : World) (hn : xs.length = n) (h : SRow encHour w A xs) (hl : n ≤ 2000000) (hr : stL xs holds has = l) :
    Calls Try.prog 18 #[.slice A n cap, .int .i64 holds, .int .i64 has] w fun E w' => NumsRet8 l w E w' := by
  obtain ⟨i0, hi0, hz0, hz1, hz2⟩ := info_parts infoNum
  have HI := Lib.hid (And.intro hi0 (And.intro hz0 (And.intro hz1 hz2)))
  clear hi0 hz0 hz1 hz2
  subst hr
  cases hb9 : stB xs holds has
  · have e1 : stL xs holds has = [] := by unfold stL; rw [hb9]; rfl
    rw [e1]
    clear e1
    rcases stB_false hb9 with hv | ⟨hv, h2⟩ | ⟨hv, h2, h3⟩
    · have HV := Lib.hid hv
      clear hv hb9
      have HN := Lib.hid hn
      clear hn
      go_enter Try.func18, Try.ntmps18
      go_wp2_with fail
      go_loopw [2, 7, 8] (fun sv rv i wr => ∃ (g : Nat), i = .int .i64 0 ∧ sv = .int .i64 has ∧ rv = .slice (some ⟨g, 0, none⟩) 0 0 ∧ SOwn encNum wr w.heap.size 3 (some ⟨g, 0, none⟩) 0 [] ∧ Below w.heap.size w wr) (fun _ _ i _ => (n - intOf i).toNat)
      case atStart => exact ⟨_, rfl, rfl, rfl, SOwn.empty (blk_new w _) (Nat.le_refl _), bel1 w _⟩
      case round =>
        obtain ⟨g, rfl, rfl, rfl, hO, hB⟩ := hrel
        by_cases hlt : 0 < n
        · have hki : (0 : Int) < (n : Int) := by omega
          go_wp2_with fail
          refine (sHv_is A cap xs _ HN.out (h.next hB) hl HV.out).mono ?_; rintro E w1 ⟨rfl, hw1⟩
          go_wp2_with fail
          go_ret
          exact ⟨_, 0, rfl, hO.next hw1, bel_next hB hw1⟩
        · have hki : ¬ (0 : Int) < (n : Int) := by omega
          go_wp2_with fail
          go_ret
          exact ⟨_, 0, rfl, hO, hB⟩
    · have HV := Lib.hid hv
      have H2_ := Lib.hid h2
      clear hv h2 hb9
      have HN := Lib.hid hn
      clear hn
      go_enter Try.func18, Try.ntmps18
      go_wp2_with fail
      go_loopw [2, 7, 8] (fun sv rv i wr => ∃ (g : Nat), i = .int .i64 0 ∧ sv = .int .i64 has ∧ rv = .slice (some ⟨g, 0, none⟩) 0 0 ∧ SOwn encNum wr w.heap.size 3 (some ⟨g, 0, none⟩) 0 [] ∧ Below w.heap.size w wr) (fun _ _ i _ => (n - intOf i).toNat)
      case atStart => exact ⟨_, rfl, rfl, rfl, SOwn.empty (blk_new w _) (Nat.le_refl _), bel1 w _⟩
      case round =>
        obtain ⟨g, rfl, rfl, rfl, hO, hB⟩ := hrel
        by_cases hlt : 0 < n
        · have hki : (0 : Int) < (n : Int) := by omega
          go_wp2_with fail
          refine (sHv_is A cap xs _ HN.out (h.next hB) hl HV.out).mono ?_; rintro E w1 ⟨rfl, hw1⟩
          go_wp2_with fail
          refine (sIn7_is _ H2_.out).mono ?_; rintro E w' ⟨rfl, rfl⟩
          go_wp2_with fail
          go_ret
          exact ⟨_, 0, rfl, hO.next hw1, bel_next hB hw1⟩
        · have hki : ¬ (0 : Int) < (n : Int) := by omega
          go_wp2_with fail
          go_ret
          exact ⟨_, 0, rfl, hO, hB⟩
    · have HV := Lib.hid hv
      have H2_ := Lib.hid h2
      have H3_ := Lib.hid h3
      clear hv h2 h3 hb9
      have HN := Lib.hid hn
      clear hn
      go_enter Try.func18, Try.ntmps18
      go_wp2_with fail
      go_loopw [2, 7, 8] (fun sv rv i wr => ∃ (g : Nat), i = .int .i64 0 ∧ sv = .int .i64 has ∧ rv = .slice (some ⟨g, 0, none⟩) 0 0 ∧ SOwn encNum wr w.heap.size 3 (some ⟨g, 0, none⟩) 0 [] ∧ Below w.heap.size w wr) (fun _ _ i _ => (n - intOf i).toNat)
      case atStart => exact ⟨_, rfl, rfl, rfl, SOwn.empty (blk_new w _) (Nat.le_refl _), bel1 w _⟩
      case round =>
        obtain ⟨g, rfl, rfl, rfl, hO, hB⟩ := hrel
        by_cases hlt : 0 < n
        · have hki : (0 : Int) < (n : Int) := by omega
          go_wp2_with fail
          refine (sHv_is A cap xs _ HN.out (h.next hB) hl HV.out).mono ?_; rintro E w1 ⟨rfl, hw1⟩
          go_wp2_with fail
          refine (sIn7_is _ H2_.out).mono ?_; rintro E w' ⟨rfl, rfl⟩
          go_wp2_with fail
          refine (sIn7_is _ H3_.out).mono ?_; rintro E w' ⟨rfl, rfl⟩
          go_wp2_with fail
          go_ret
          exact ⟨_, 0, rfl, hO.next hw1, bel_next hB hw1⟩
        · have hki : ¬ (0 : Int) < (n : Int) := by omega
          go_wp2_with fail
          go_ret
          exact ⟨_, 0, rfl, hO, hB⟩
  · have e1 : stL xs holds has = stR holds has xs := by unfold stL; rw [hb9]; rfl
    rw [e1]
    clear e1
    obtain ⟨hv, h00, h01, h02, h03⟩ := stB_iff.1 hb9
    obtain ⟨_, hi2, hi3⟩ := stB_true hb9
    have hn10 : n ≤ 10 := by have := (hrB_iff.1 hv).1; omega
    have HV := Lib.hid hv
    have H2_ := Lib.hid hi2
    have H3_ := Lib.hid hi3
    have HN := Lib.hid hn
    clear hv hi2 hi3 hn
    clear hb9 H3_
    go_enter Try.func18, Try.ntmps18
    go_wp2_with fail
    go_loopw [2, 7, 8] (fun sv rv i wr => ∃ (k m cv : Nat) (V : Option Addr) (us : List Int), k ≤ n ∧ m = k ∧ i = .int .i64 k ∧ rv = .slice V m cv ∧ sv = .int .i64 (stE holds has (xs.take k)) ∧ Hid (us.length = m) ∧ Hid (us = stR holds has (xs.take k)) ∧ SOwn encNum wr w.heap.size 3 V cv us ∧ Below w.heap.size w wr) (fun _ _ i _ => (n - intOf i).toNat)
    case atStart => exact ⟨0, 0, 0, _, [], by omega, rfl, rfl, rfl, rfl, (by show _ = _; rfl), (by show _ = _; rfl), SOwn.empty (blk_new w _) (Nat.le_refl _), bel1 w _⟩
    case round =>
      obtain ⟨k, m, cv, V, us, k1, mk, rfl, rfl, rfl, HM, HU, hO9, hB9⟩ := hrel
      have MK := Lib.hid mk
      have hm10 : m ≤ 10 := by omega
      by_cases hlt : k < n
      · clear mk
        obtain ⟨hb0, hb1⟩ := stE_bd h00 (xs.take k) has h02 h03
        have H3_ : Hid (inV (stE holds has (xs.take k)) 0 holds = true) := Lib.hid (by unfold inV; simp; omega)
        have hki : (k : Int) < (n : Int) := by omega
        go_wp2_with fail
        refine (sHv_is A cap xs _ HN.out (h.next hB9) hl HV.out).mono ?_; rintro E w1 ⟨rfl, hw1⟩
        have hB := bel_next hB9 hw1
        have hO := hO9.next hw1
        go_wp2_with fail
        refine (sIn7_is _ H2_.out).mono ?_; rintro E w' ⟨rfl, rfl⟩
        go_wp2_with fail
        refine (sIn7_is _ H3_.out).mono ?_; rintro E w' ⟨rfl, rfl⟩
        clear hb0 hb1 H3_
        have hk : k < xs.length := by rw [HN.out]; exact hlt
        have hki : (k : Int) < (n : Int) := by omega
        obtain ⟨b, off, rfl, hb, c0, c1⟩ := rowHour (h.next hB) hk
        obtain ⟨hg0, hg1, hd0, hd1⟩ := hrB_at HV.out hk
        have hs1 := stE_step (holds := holds) (has := has) hk
        have hs2 := stR_step (holds := holds) (has := has) hk
        have hs3 := laR_step (holds := holds) (has := has) hk
        have hs4 := loR_step (holds := holds) (has := has) hk
        obtain ⟨hb0, hb1⟩ := stE_bd h00 (xs.take k) has h02 h03
        have hla := laR_bd h00 (xs.take k) has h02 (fun x hx => (hrB_iff.1 HV.out).2 x (List.mem_of_mem_take hx))
        have hlo := loR_bd h00 (xs.take k) has h03 (fun x hx => (hrB_iff.1 HV.out).2 x (List.mem_of_mem_take hx))
        have hla0 := laR_nn holds (xs.take k) has
        have hlo0 := loR_nn holds (xs.take k) has
        have hlt9 : (xs.take k).length ≤ 10 := by rw [List.length_take]; omega
        have hk10 : k < 10 := by omega
        unfold stS at hs1 hs2
        unfold laS at hs3
        unfold loS at hs4
        generalize xs[k].1 = g at c0 hg0 hg1 hs1 hs2 hs3 hs4
        generalize xs[k].2 = d at c1 hd0 hd1 hs1 hs2 hs3 hs4
        generalize stE holds has (xs.take k) = s at hb0 hb1 hs1 hs2 hs3 hs4 ⊢
        generalize laR holds has (xs.take k) = a at hs3 hla hla0 ⊢
        generalize loR holds has (xs.take k) = z at hs4 hlo hlo0 ⊢
        by_cases hx0 : s + g - d < 0
        · have e1 : min (max (s + g - d) 0) holds = 0 := by omega
          have e3 : max (-(s + g - d)) 0 = -(s + g - d) := by omega
          have e4 : max (s + g - d - holds) 0 = 0 := by omega
          rw [e1] at hs1 hs2
          rw [e3] at hs3
          rw [e4] at hs4
          clear e1 e3 e4
          have H1 := Lib.hid hs1
          have H2 := Lib.hid hs2
          have H3 := Lib.hid hs3
          have H4 := Lib.hid hs4
          clear hs1 hs2 hs3 hs4
          have hn1 : 0 < -(s + g - d) := by omega
          have hn2 : s + g - d - holds < 0 := by omega
          have hn3 : ¬ holds < 0 := by omega
          have wz1 : IntKind.i64.wrap (s + g) = s + g := IntWalk.i64_in _ (by omega)
          have wz2 : IntKind.i64.wrap (s + g - d) = s + g - d := IntWalk.i64_in _ (by omega)
          have i1 : (if s + g - d < 0 then (0 : Int) else s + g - d) = 0 := if_pos hx0
          have i2 : (if holds < 0 then holds else (0 : Int)) = 0 := if_neg hn3
          go_wp2_with fail
          refine wp_region_held_drew (S := (fun w' => w'.cell? ⟨b, off + k * 2, none⟩ = some (.int .i64 g) ∧ w'.cell? ⟨b, off + k * 2 + 1, none⟩ = some (.int .i64 d) ∧ Below w.heap.size w w')) (by kernel_rfl) ⟨c0, c1, hB.drew⟩ (fun hHeld => ?_)
          obtain ⟨hC_0, hD_0, hB_0⟩ := id hHeld
          refine wpAnyH_take (i := 0) (oi := _) (v := ?_) rfl (by kernel_rfl) (by kernel_rfl) (by kernel_rfl) (fun _ _ _ h => h) (Or.inl ⟨by rfl, ?_⟩) (by assumption) ?_
          (rotate_left); (focus (intro wv hSw; (obtain ⟨qC, qD, qB⟩ := hSw);  go_simp; (try with_reducible rfl)))
          try simp only [Act.put, List.getElem_toArray, List.getElem_cons_succ, List.getElem_cons_zero, List.setIfInBounds_toArray, List.set_cons_zero, List.set_cons_succ]
          refine wpAnyH_take (i := 1) (oi := _) (v := ?_) rfl (by kernel_rfl) (by kernel_rfl) (by kernel_rfl) (fun _ _ _ h => h) (Or.inl ⟨by rfl, ?_⟩) (by assumption) ?_
          (rotate_left); (focus (intro wv hSw; (obtain ⟨qC, qD, qB⟩ := hSw);  go_simp; (try with_reducible rfl)))
          try simp only [Act.put, List.getElem_toArray, List.getElem_cons_succ, List.getElem_cons_zero, List.setIfInBounds_toArray, List.set_cons_zero, List.set_cons_succ]
          refine wpAnyH_take (i := 2) (oi := _) (v := ?_) rfl (by kernel_rfl) (by kernel_rfl) (by kernel_rfl) (fun _ _ _ h => h) (Or.inl ⟨by rfl, ?_⟩) (by assumption) ?_
          (rotate_left); (focus (intro wv hSw; (obtain ⟨qC, qD, qB⟩ := hSw);  go_simp; (try with_reducible rfl)))
          try simp only [Act.put, List.getElem_toArray, List.getElem_cons_succ, List.getElem_cons_zero, List.setIfInBounds_toArray, List.set_cons_zero, List.set_cons_succ]
          refine wpAnyH_take (i := 3) (oi := _) (v := ?_) rfl (by kernel_rfl) (by kernel_rfl) (by kernel_rfl) (fun _ _ _ h => h) (Or.inl ⟨by rfl, ?_⟩) (by assumption) ?_
          (rotate_left); (focus (intro wv hSw; (obtain ⟨qC, qD, qB⟩ := hSw);  go_simp; (try with_reducible rfl)))
          try simp only [Act.put, List.getElem_toArray, List.getElem_cons_succ, List.getElem_cons_zero, List.setIfInBounds_toArray, List.set_cons_zero, List.set_cons_succ]
          refine wpAnyH_take (i := 4) (oi := _) (v := ?_) rfl (by kernel_rfl) (by kernel_rfl) (by kernel_rfl) (fun _ _ _ h => h) (Or.inl ⟨by rfl, ?_⟩) (by assumption) ?_
          (rotate_left); (focus (intro wv hSw; (obtain ⟨qC, qD, qB⟩ := hSw);  go_simp; (try with_reducible rfl)))
          try simp only [Act.put, List.getElem_toArray, List.getElem_cons_succ, List.getElem_cons_zero, List.setIfInBounds_toArray, List.set_cons_zero, List.set_cons_succ]
          refine wpAnyH_take (i := 5) (oi := _) (v := ?_) rfl (by kernel_rfl) (by kernel_rfl) (by kernel_rfl) (fun _ _ _ h => h) (Or.inl ⟨by rfl, ?_⟩) (by assumption) ?_
          (rotate_left); (focus (intro wv hSw; (obtain ⟨qC, qD, qB⟩ := hSw);  go_simp; (try with_reducible rfl)))
          try simp only [Act.put, List.getElem_toArray, List.getElem_cons_succ, List.getElem_cons_zero, List.setIfInBounds_toArray, List.set_cons_zero, List.set_cons_succ]
          refine wpAnyH_take (i := 6) (oi := _) (v := ?_) rfl (by kernel_rfl) (by kernel_rfl) (by kernel_rfl) (fun _ _ _ h => h) (Or.inl ⟨by rfl, ?_⟩) (by assumption) ?_
          (rotate_left); (focus (intro wv hSw; (obtain ⟨qC, qD, qB⟩ := hSw);  go_simp; (try with_reducible rfl)))
          try simp only [Act.put, List.getElem_toArray, List.getElem_cons_succ, List.getElem_cons_zero, List.setIfInBounds_toArray, List.set_cons_zero, List.set_cons_succ]
          refine wpAnyH_take (i := 7) (oi := _) (v := ?_) rfl (by kernel_rfl) (by kernel_rfl) (by kernel_rfl) (fun _ _ _ h => h) (Or.inl ⟨by rfl, ?_⟩) (by assumption) ?_
          (rotate_left); (focus (intro wv hSw; (obtain ⟨qC, qD, qB⟩ := hSw);  go_simp; (try with_reducible rfl)))
          try simp only [Act.put, List.getElem_toArray, List.getElem_cons_succ, List.getElem_cons_zero, List.setIfInBounds_toArray, List.set_cons_zero, List.set_cons_succ]
          refine wpAnyH_take (i := 8) (oi := _) (v := ?_) rfl (by kernel_rfl) (by kernel_rfl) (by kernel_rfl) (fun _ _ _ h => h) (Or.inl ⟨by rfl, ?_⟩) (by assumption) ?_
          (rotate_left); (focus (intro wv hSw; (obtain ⟨qC, qD, qB⟩ := hSw);  go_simp; (try with_reducible rfl)))
          try simp only [Act.put, List.getElem_toArray, List.getElem_cons_succ, List.getElem_cons_zero, List.setIfInBounds_toArray, List.set_cons_zero, List.set_cons_succ]
          refine wpAnyH_take (i := 9) (oi := _) (v := ?_) rfl (by kernel_rfl) (by kernel_rfl) (by kernel_rfl) (fun _ _ _ h => h) (Or.inl ⟨by rfl, ?_⟩) (by assumption) ?_
          (rotate_left); (focus (intro wv hSw; (obtain ⟨qC, qD, qB⟩ := hSw);  go_simp; (try with_reducible rfl)))
          try simp only [Act.put, List.getElem_toArray, List.getElem_cons_succ, List.getElem_cons_zero, List.setIfInBounds_toArray, List.set_cons_zero, List.set_cons_succ]
          refine wpAnyH_take (i := 10) (oi := _) (v := ?_) rfl (by kernel_rfl) (by kernel_rfl) (by kernel_rfl) (fun _ _ _ h => h) (Or.inl ⟨by rfl, ?_⟩) (by assumption) ?_
          (rotate_left); (focus (intro wv hSw; (obtain ⟨qC, qD, qB⟩ := hSw);  go_simp; (try with_reducible rfl)))
          try simp only [Act.put, List.getElem_toArray, List.getElem_cons_succ, List.getElem_cons_zero, List.setIfInBounds_toArray, List.set_cons_zero, List.set_cons_succ]
          refine wpAnyH_take (i := 11) (oi := _) (v := ?_) rfl (by kernel_rfl) (by kernel_rfl) (by kernel_rfl) (fun _ _ _ h => h) (Or.inl ⟨by rfl, ?_⟩) (by assumption) ?_
          (rotate_left); (focus (intro wv hSw; (obtain ⟨qC, qD, qB⟩ := hSw);  go_simp; (try with_reducible rfl)))
          try simp only [Act.put, List.getElem_toArray, List.getElem_cons_succ, List.getElem_cons_zero, List.setIfInBounds_toArray, List.set_cons_zero, List.set_cons_succ]
          refine wpAnyH_take (i := 12) (oi := _) (v := ?_) rfl (by kernel_rfl) (by kernel_rfl) (by kernel_rfl) (fun _ _ _ h => h) (Or.inl ⟨by rfl, ?_⟩) (by assumption) ?_
          (rotate_left); (focus (intro wv hSw; (obtain ⟨qC, qD, qB⟩ := hSw);  go_simp; (try with_reducible rfl)))
          try simp only [Act.put, List.getElem_toArray, List.getElem_cons_succ, List.getElem_cons_zero, List.setIfInBounds_toArray, List.set_cons_zero, List.set_cons_succ]
          refine wpAnyH_take (i := 13) (oi := _) (v := ?_) rfl (by kernel_rfl) (by kernel_rfl) (by kernel_rfl) (fun _ _ _ h => h) (Or.inl ⟨by rfl, ?_⟩) (by assumption) ?_
          (rotate_left); (focus (intro wv hSw; (obtain ⟨qC, qD, qB⟩ := hSw);  go_simp; (try with_reducible rfl)))
          try simp only [Act.put, List.getElem_toArray, List.getElem_cons_succ, List.getElem_cons_zero, List.setIfInBounds_toArray, List.set_cons_zero, List.set_cons_succ]
          refine wpAnyH_take (i := 14) (oi := _) (v := ?_) rfl (by kernel_rfl) (by kernel_rfl) (by kernel_rfl) (fun _ _ _ h => h) (Or.inl ⟨by rfl, ?_⟩) (by assumption) ?_
          (rotate_left); (focus (intro wv hSw; (obtain ⟨qC, qD, qB⟩ := hSw);  go_simp; (try with_reducible rfl)))
          try simp only [Act.put, List.getElem_toArray, List.getElem_cons_succ, List.getElem_cons_zero, List.setIfInBounds_toArray, List.set_cons_zero, List.set_cons_succ]
          refine wpAnyH_take (i := 15) (oi := _) (v := ?_) rfl (by kernel_rfl) (by kernel_rfl) (by kernel_rfl) (fun _ _ _ h => h) (Or.inl ⟨by rfl, ?_⟩) (by assumption) ?_
          (rotate_left); (focus (intro wv hSw; (obtain ⟨qC, qD, qB⟩ := hSw);  go_simp; (try with_reducible rfl)))
          try simp only [Act.put, List.getElem_toArray, List.getElem_cons_succ, List.getElem_cons_zero, List.setIfInBounds_toArray, List.set_cons_zero, List.set_cons_succ]
          refine wpAnyH_take (i := 16) (oi := _) (v := ?_) rfl (by kernel_rfl) (by kernel_rfl) (by kernel_rfl) (fun _ _ _ h => h) (Or.inl ⟨by rfl, ?_⟩) (by assumption) ?_
          (rotate_left); (focus (intro wv hSw; (obtain ⟨qC, qD, qB⟩ := hSw);  go_simp; (try with_reducible rfl)))
          try simp only [Act.put, List.getElem_toArray, List.getElem_cons_succ, List.getElem_cons_zero, List.setIfInBounds_toArray, List.set_cons_zero, List.set_cons_succ]
          refine wpAnyH_done (by kernel_rfl) ?_ _
          have hcp := hB.size
          have hOa := (hO.alloc (.cells (encNum.enc (0)).toArray 3)).drew
          go_wp2_with (at_builtin; refine wpList_append_lies _ rfl (.tmp 45) (.tmp 47) _ rfl w.heap.size 3 i0 _ 1 8 Try.underlying32 HI.out.1 HI.out.2.1 HI.out.2.2.1 HI.out.2.2.2 rfl (by omega) (.slice V m cv) m (encNum.flat us) rfl (by unfold SOwn at hOa; rw [HM.out] at hOa; exact hOa) ⟨w1.heap.size, 0, none⟩ 1 1 (encNum.enc (0)) rfl rfl (new_enc (E := encNum) w1 (0) _) (encNum.one _) (by omega) (by simp only [maxLen]; omega) (by omega) (by simp; omega) _ rfl ?_; intro g5 cap5 w5 hown5 hgr5 hat5 hlt5)
          have hB5 := SOwn.below_grown (n := m) hOa (hB.alloc hB.size (.cells (encNum.enc (0)).toArray 3)).drew hgr5
          have hsn := SOwn.snoc (E := encNum) (xs := us) (x := 0) (by rw [HM.out]; exact hown5)
          go_wp2_with fail
          go_roundw
          case rel =>
            exact ⟨k + 1, m + 1, cap5, some ⟨g5, 0, none⟩, us ++ [0], by omega, by rw [MK.out], by go_num, rfl, (by refine congrArg _ (Eq.trans ?_ H1.out.symm); (try rw [IntWalk.i64_in _ (by omega)]); (try omega)), Lib.hid (by rw [List.length_append, HM.out]; rfl), Lib.hid (by rw [H2.out, HU.out]), hsn, hB5⟩
          case measure => simp [intOf]; omega
        · by_cases hx1 : holds < s + g - d
          · have e1 : min (max (s + g - d) 0) holds = holds := by omega
            have e3 : max (-(s + g - d)) 0 = 0 := by omega
            have e4 : max (s + g - d - holds) 0 = s + g - d - holds := by omega
            rw [e1] at hs1 hs2
            rw [e3] at hs3
            rw [e4] at hs4
            clear e1 e3 e4
            have H1 := Lib.hid hs1
            have H2 := Lib.hid hs2
            have H3 := Lib.hid hs3
            have H4 := Lib.hid hs4
            clear hs1 hs2 hs3 hs4
            have hn1 : -(s + g - d) < 0 := by omega
            have hn2 : 0 < s + g - d - holds := by omega
            have wz1 : IntKind.i64.wrap (s + g) = s + g := IntWalk.i64_in _ (by omega)
            have wz2 : IntKind.i64.wrap (s + g - d) = s + g - d := IntWalk.i64_in _ (by omega)
            have i1 : (if s + g - d < 0 then (0 : Int) else s + g - d) = s + g - d := if_neg hx0
            have i2 : (if holds < s + g - d then holds else s + g - d) = holds := if_pos hx1
            go_wp2_with fail
            refine wp_region_held_drew (S := (fun w' => w'.cell? ⟨b, off + k * 2, none⟩ = some (.int .i64 g) ∧ w'.cell? ⟨b, off + k * 2 + 1, none⟩ = some (.int .i64 d) ∧ Below w.heap.size w w')) (by kernel_rfl) ⟨c0, c1, hB.drew⟩ (fun hHeld => ?_)
            obtain ⟨hC_0, hD_0, hB_0⟩ := id hHeld
            refine wpAnyH_take (i := 0) (oi := _) (v := ?_) rfl (by kernel_rfl) (by kernel_rfl) (by kernel_rfl) (fun _ _ _ h => h) (Or.inl ⟨by rfl, ?_⟩) (by assumption) ?_
            (rotate_left); (focus (intro wv hSw; (obtain ⟨qC, qD, qB⟩ := hSw);  go_simp; (try with_reducible rfl)))
            try simp only [Act.put, List.getElem_toArray, List.getElem_cons_succ, List.getElem_cons_zero, List.setIfInBounds_toArray, List.set_cons_zero, List.set_cons_succ]
            refine wpAnyH_take (i := 1) (oi := _) (v := ?_) rfl (by kernel_rfl) (by kernel_rfl) (by kernel_rfl) (fun _ _ _ h => h) (Or.inl ⟨by rfl, ?_⟩) (by assumption) ?_
            (rotate_left); (focus (intro wv hSw; (obtain ⟨qC, qD, qB⟩ := hSw);  go_simp; (try with_reducible rfl)))
            try simp only [Act.put, List.getElem_toArray, List.getElem_cons_succ, List.getElem_cons_zero, List.setIfInBounds_toArray, List.set_cons_zero, List.set_cons_succ]
            refine wpAnyH_take (i := 2) (oi := _) (v := ?_) rfl (by kernel_rfl) (by kernel_rfl) (by kernel_rfl) (fun _ _ _ h => h) (Or.inl ⟨by rfl, ?_⟩) (by assumption) ?_
            (rotate_left); (focus (intro wv hSw; (obtain ⟨qC, qD, qB⟩ := hSw);  go_simp; (try with_reducible rfl)))
            try simp only [Act.put, List.getElem_toArray, List.getElem_cons_succ, List.getElem_cons_zero, List.setIfInBounds_toArray, List.set_cons_zero, List.set_cons_succ]
            refine wpAnyH_take (i := 3) (oi := _) (v := ?_) rfl (by kernel_rfl) (by kernel_rfl) (by kernel_rfl) (fun _ _ _ h => h) (Or.inl ⟨by rfl, ?_⟩) (by assumption) ?_
            (rotate_left); (focus (intro wv hSw; (obtain ⟨qC, qD, qB⟩ := hSw);  go_simp; (try with_reducible rfl)))
            try simp only [Act.put, List.getElem_toArray, List.getElem_cons_succ, List.getElem_cons_zero, List.setIfInBounds_toArray, List.set_cons_zero, List.set_cons_succ]
            refine wpAnyH_take (i := 4) (oi := _) (v := ?_) rfl (by kernel_rfl) (by kernel_rfl) (by kernel_rfl) (fun _ _ _ h => h) (Or.inl ⟨by rfl, ?_⟩) (by assumption) ?_
            (rotate_left); (focus (intro wv hSw; (obtain ⟨qC, qD, qB⟩ := hSw);  go_simp; (try with_reducible rfl)))
            try simp only [Act.put, List.getElem_toArray, List.getElem_cons_succ, List.getElem_cons_zero, List.setIfInBounds_toArray, List.set_cons_zero, List.set_cons_succ]
            refine wpAnyH_take (i := 5) (oi := _) (v := ?_) rfl (by kernel_rfl) (by kernel_rfl) (by kernel_rfl) (fun _ _ _ h => h) (Or.inl ⟨by rfl, ?_⟩) (by assumption) ?_
            (rotate_left); (focus (intro wv hSw; (obtain ⟨qC, qD, qB⟩ := hSw);  go_simp; (try with_reducible rfl)))
            try simp only [Act.put, List.getElem_toArray, List.getElem_cons_succ, List.getElem_cons_zero, List.setIfInBounds_toArray, List.set_cons_zero, List.set_cons_succ]
            refine wpAnyH_take (i := 6) (oi := _) (v := ?_) rfl (by kernel_rfl) (by kernel_rfl) (by kernel_rfl) (fun _ _ _ h => h) (Or.inl ⟨by rfl, ?_⟩) (by assumption) ?_
            (rotate_left); (focus (intro wv hSw; (obtain ⟨qC, qD, qB⟩ := hSw);  go_simp; (try with_reducible rfl)))
            try simp only [Act.put, List.getElem_toArray, List.getElem_cons_succ, List.getElem_cons_zero, List.setIfInBounds_toArray, List.set_cons_zero, List.set_cons_succ]
            refine wpAnyH_take (i := 7) (oi := _) (v := ?_) rfl (by kernel_rfl) (by kernel_rfl) (by kernel_rfl) (fun _ _ _ h => h) (Or.inl ⟨by rfl, ?_⟩) (by assumption) ?_
            (rotate_left); (focus (intro wv hSw; (obtain ⟨qC, qD, qB⟩ := hSw);  go_simp; (try with_reducible rfl)))
            try simp only [Act.put, List.getElem_toArray, List.getElem_cons_succ, List.getElem_cons_zero, List.setIfInBounds_toArray, List.set_cons_zero, List.set_cons_succ]
            refine wpAnyH_take (i := 8) (oi := _) (v := ?_) rfl (by kernel_rfl) (by kernel_rfl) (by kernel_rfl) (fun _ _ _ h => h) (Or.inl ⟨by rfl, ?_⟩) (by assumption) ?_
            (rotate_left); (focus (intro wv hSw; (obtain ⟨qC, qD, qB⟩ := hSw);  go_simp; (try with_reducible rfl)))
            try simp only [Act.put, List.getElem_toArray, List.getElem_cons_succ, List.getElem_cons_zero, List.setIfInBounds_toArray, List.set_cons_zero, List.set_cons_succ]
            refine wpAnyH_take (i := 9) (oi := _) (v := ?_) rfl (by kernel_rfl) (by kernel_rfl) (by kernel_rfl) (fun _ _ _ h => h) (Or.inl ⟨by rfl, ?_⟩) (by assumption) ?_
            (rotate_left); (focus (intro wv hSw; (obtain ⟨qC, qD, qB⟩ := hSw);  go_simp; (try with_reducible rfl)))
            try simp only [Act.put, List.getElem_toArray, List.getElem_cons_succ, List.getElem_cons_zero, List.setIfInBounds_toArray, List.set_cons_zero, List.set_cons_succ]
            refine wpAnyH_take (i := 10) (oi := _) (v := ?_) rfl (by kernel_rfl) (by kernel_rfl) (by kernel_rfl) (fun _ _ _ h => h) (Or.inl ⟨by rfl, ?_⟩) (by assumption) ?_
            (rotate_left); (focus (intro wv hSw; (obtain ⟨qC, qD, qB⟩ := hSw);  go_simp; (try with_reducible rfl)))
            try simp only [Act.put, List.getElem_toArray, List.getElem_cons_succ, List.getElem_cons_zero, List.setIfInBounds_toArray, List.set_cons_zero, List.set_cons_succ]
            refine wpAnyH_take (i := 11) (oi := _) (v := ?_) rfl (by kernel_rfl) (by kernel_rfl) (by kernel_rfl) (fun _ _ _ h => h) (Or.inl ⟨by rfl, ?_⟩) (by assumption) ?_
            (rotate_left); (focus (intro wv hSw; (obtain ⟨qC, qD, qB⟩ := hSw);  go_simp; (try with_reducible rfl)))
            try simp only [Act.put, List.getElem_toArray, List.getElem_cons_succ, List.getElem_cons_zero, List.setIfInBounds_toArray, List.set_cons_zero, List.set_cons_succ]
            refine wpAnyH_take (i := 12) (oi := _) (v := ?_) rfl (by kernel_rfl) (by kernel_rfl) (by kernel_rfl) (fun _ _ _ h => h) (Or.inl ⟨by rfl, ?_⟩) (by assumption) ?_
            (rotate_left); (focus (intro wv hSw; (obtain ⟨qC, qD, qB⟩ := hSw);  go_simp; (try with_reducible rfl)))
            try simp only [Act.put, List.getElem_toArray, List.getElem_cons_succ, List.getElem_cons_zero, List.setIfInBounds_toArray, List.set_cons_zero, List.set_cons_succ]
            refine wpAnyH_take (i := 13) (oi := _) (v := ?_) rfl (by kernel_rfl) (by kernel_rfl) (by kernel_rfl) (fun _ _ _ h => h) (Or.inl ⟨by rfl, ?_⟩) (by assumption) ?_
            (rotate_left); (focus (intro wv hSw; (obtain ⟨qC, qD, qB⟩ := hSw);  go_simp; (try with_reducible rfl)))
            try simp only [Act.put, List.getElem_toArray, List.getElem_cons_succ, List.getElem_cons_zero, List.setIfInBounds_toArray, List.set_cons_zero, List.set_cons_succ]
            refine wpAnyH_take (i := 14) (oi := _) (v := ?_) rfl (by kernel_rfl) (by kernel_rfl) (by kernel_rfl) (fun _ _ _ h => h) (Or.inl ⟨by rfl, ?_⟩) (by assumption) ?_
            (rotate_left); (focus (intro wv hSw; (obtain ⟨qC, qD, qB⟩ := hSw);  go_simp; (try with_reducible rfl)))
            try simp only [Act.put, List.getElem_toArray, List.getElem_cons_succ, List.getElem_cons_zero, List.setIfInBounds_toArray, List.set_cons_zero, List.set_cons_succ]
            refine wpAnyH_take (i := 15) (oi := _) (v := ?_) rfl (by kernel_rfl) (by kernel_rfl) (by kernel_rfl) (fun _ _ _ h => h) (Or.inl ⟨by rfl, ?_⟩) (by assumption) ?_
            (rotate_left); (focus (intro wv hSw; (obtain ⟨qC, qD, qB⟩ := hSw);  go_simp; (try with_reducible rfl)))
            try simp only [Act.put, List.getElem_toArray, List.getElem_cons_succ, List.getElem_cons_zero, List.setIfInBounds_toArray, List.set_cons_zero, List.set_cons_succ]
            refine wpAnyH_take (i := 16) (oi := _) (v := ?_) rfl (by kernel_rfl) (by kernel_rfl) (by kernel_rfl) (fun _ _ _ h => h) (Or.inl ⟨by rfl, ?_⟩) (by assumption) ?_
            (rotate_left); (focus (intro wv hSw; (obtain ⟨qC, qD, qB⟩ := hSw);  go_simp; (try with_reducible rfl)))
            try simp only [Act.put, List.getElem_toArray, List.getElem_cons_succ, List.getElem_cons_zero, List.setIfInBounds_toArray, List.set_cons_zero, List.set_cons_succ]
            refine wpAnyH_done (by kernel_rfl) ?_ _
            have hcp := hB.size
            have hOa := (hO.alloc (.cells (encNum.enc (holds)).toArray 3)).drew
            go_wp2_with (at_builtin; refine wpList_append_lies _ rfl (.tmp 45) (.tmp 47) _ rfl w.heap.size 3 i0 _ 1 8 Try.underlying32 HI.out.1 HI.out.2.1 HI.out.2.2.1 HI.out.2.2.2 rfl (by omega) (.slice V m cv) m (encNum.flat us) rfl (by unfold SOwn at hOa; rw [HM.out] at hOa; exact hOa) ⟨w1.heap.size, 0, none⟩ 1 1 (encNum.enc (holds)) rfl rfl (new_enc (E := encNum) w1 (holds) _) (encNum.one _) (by omega) (by simp only [maxLen]; omega) (by omega) (by simp; omega) _ rfl ?_; intro g5 cap5 w5 hown5 hgr5 hat5 hlt5)
            have hB5 := SOwn.below_grown (n := m) hOa (hB.alloc hB.size (.cells (encNum.enc (holds)).toArray 3)).drew hgr5
            have hsn := SOwn.snoc (E := encNum) (xs := us) (x := holds) (by rw [HM.out]; exact hown5)
            go_wp2_with fail
            go_roundw
            case rel =>
              exact ⟨k + 1, m + 1, cap5, some ⟨g5, 0, none⟩, us ++ [holds], by omega, by rw [MK.out], by go_num, rfl, (by refine congrArg _ (Eq.trans ?_ H1.out.symm); (try rw [IntWalk.i64_in _ (by omega)]); (try omega)), Lib.hid (by rw [List.length_append, HM.out]; rfl), Lib.hid (by rw [H2.out, HU.out]), hsn, hB5⟩
            case measure => simp [intOf]; omega
          · have e1 : min (max (s + g - d) 0) holds = s + g - d := by omega
            have e3 : max (-(s + g - d)) 0 = 0 := by omega
            have e4 : max (s + g - d - holds) 0 = 0 := by omega
            rw [e1] at hs1 hs2
            rw [e3] at hs3
            rw [e4] at hs4
            clear e1 e3 e4
            have H1 := Lib.hid hs1
            have H2 := Lib.hid hs2
            have H3 := Lib.hid hs3
            have H4 := Lib.hid hs4
            clear hs1 hs2 hs3 hs4
            have hn1 : ¬ 0 < -(s + g - d) := by omega
            have hn2 : ¬ 0 < s + g - d - holds := by omega
            have wz1 : IntKind.i64.wrap (s + g) = s + g := IntWalk.i64_in _ (by omega)
            have wz2 : IntKind.i64.wrap (s + g - d) = s + g - d := IntWalk.i64_in _ (by omega)
            have i1 : (if s + g - d < 0 then (0 : Int) else s + g - d) = s + g - d := if_neg hx0
            have i2 : (if holds < s + g - d then holds else s + g - d) = s + g - d := if_neg hx1
            go_wp2_with fail
            refine wp_region_held_drew (S := (fun w' => w'.cell? ⟨b, off + k * 2, none⟩ = some (.int .i64 g) ∧ w'.cell? ⟨b, off + k * 2 + 1, none⟩ = some (.int .i64 d) ∧ Below w.heap.size w w')) (by kernel_rfl) ⟨c0, c1, hB.drew⟩ (fun hHeld => ?_)
            obtain ⟨hC_0, hD_0, hB_0⟩ := id hHeld
            refine wpAnyH_take (i := 0) (oi := _) (v := ?_) rfl (by kernel_rfl) (by kernel_rfl) (by kernel_rfl) (fun _ _ _ h => h) (Or.inl ⟨by rfl, ?_⟩) (by assumption) ?_
            (rotate_left); (focus (intro wv hSw; (obtain ⟨qC, qD, qB⟩ := hSw);  go_simp; (try with_reducible rfl)))
            try simp only [Act.put, List.getElem_toArray, List.getElem_cons_succ, List.getElem_cons_zero, List.setIfInBounds_toArray, List.set_cons_zero, List.set_cons_succ]
            refine wpAnyH_take (i := 1) (oi := _) (v := ?_) rfl (by kernel_rfl) (by kernel_rfl) (by kernel_rfl) (fun _ _ _ h => h) (Or.inl ⟨by rfl, ?_⟩) (by assumption) ?_
            (rotate_left); (focus (intro wv hSw; (obtain ⟨qC, qD, qB⟩ := hSw);  go_simp; (try with_reducible rfl)))
            try simp only [Act.put, List.getElem_toArray, List.getElem_cons_succ, List.getElem_cons_zero, List.setIfInBounds_toArray, List.set_cons_zero, List.set_cons_succ]
            refine wpAnyH_take (i := 2) (oi := _) (v := ?_) rfl (by kernel_rfl) (by kernel_rfl) (by kernel_rfl) (fun _ _ _ h => h) (Or.inl ⟨by rfl, ?_⟩) (by assumption) ?_
            (rotate_left); (focus (intro wv hSw; (obtain ⟨qC, qD, qB⟩ := hSw);  go_simp; (try with_reducible rfl)))
            try simp only [Act.put, List.getElem_toArray, List.getElem_cons_succ, List.getElem_cons_zero, List.setIfInBounds_toArray, List.set_cons_zero, List.set_cons_succ]
            refine wpAnyH_take (i := 3) (oi := _) (v := ?_) rfl (by kernel_rfl) (by kernel_rfl) (by kernel_rfl) (fun _ _ _ h => h) (Or.inl ⟨by rfl, ?_⟩) (by assumption) ?_
            (rotate_left); (focus (intro wv hSw; (obtain ⟨qC, qD, qB⟩ := hSw);  go_simp; (try with_reducible rfl)))
            try simp only [Act.put, List.getElem_toArray, List.getElem_cons_succ, List.getElem_cons_zero, List.setIfInBounds_toArray, List.set_cons_zero, List.set_cons_succ]
            refine wpAnyH_take (i := 4) (oi := _) (v := ?_) rfl (by kernel_rfl) (by kernel_rfl) (by kernel_rfl) (fun _ _ _ h => h) (Or.inl ⟨by rfl, ?_⟩) (by assumption) ?_
            (rotate_left); (focus (intro wv hSw; (obtain ⟨qC, qD, qB⟩ := hSw);  go_simp; (try with_reducible rfl)))
            try simp only [Act.put, List.getElem_toArray, List.getElem_cons_succ, List.getElem_cons_zero, List.setIfInBounds_toArray, List.set_cons_zero, List.set_cons_succ]
            refine wpAnyH_take (i := 5) (oi := _) (v := ?_) rfl (by kernel_rfl) (by kernel_rfl) (by kernel_rfl) (fun _ _ _ h => h) (Or.inl ⟨by rfl, ?_⟩) (by assumption) ?_
            (rotate_left); (focus (intro wv hSw; (obtain ⟨qC, qD, qB⟩ := hSw);  go_simp; (try with_reducible rfl)))
            try simp only [Act.put, List.getElem_toArray, List.getElem_cons_succ, List.getElem_cons_zero, List.setIfInBounds_toArray, List.set_cons_zero, List.set_cons_succ]
            refine wpAnyH_take (i := 6) (oi := _) (v := ?_) rfl (by kernel_rfl) (by kernel_rfl) (by kernel_rfl) (fun _ _ _ h => h) (Or.inl ⟨by rfl, ?_⟩) (by assumption) ?_
            (rotate_left); (focus (intro wv hSw; (obtain ⟨qC, qD, qB⟩ := hSw);  go_simp; (try with_reducible rfl)))
            try simp only [Act.put, List.getElem_toArray, List.getElem_cons_succ, List.getElem_cons_zero, List.setIfInBounds_toArray, List.set_cons_zero, List.set_cons_succ]
            refine wpAnyH_take (i := 7) (oi := _) (v := ?_) rfl (by kernel_rfl) (by kernel_rfl) (by kernel_rfl) (fun _ _ _ h => h) (Or.inl ⟨by rfl, ?_⟩) (by assumption) ?_
            (rotate_left); (focus (intro wv hSw; (obtain ⟨qC, qD, qB⟩ := hSw);  go_simp; (try with_reducible rfl)))
            try simp only [Act.put, List.getElem_toArray, List.getElem_cons_succ, List.getElem_cons_zero, List.setIfInBounds_toArray, List.set_cons_zero, List.set_cons_succ]
            refine wpAnyH_take (i := 8) (oi := _) (v := ?_) rfl (by kernel_rfl) (by kernel_rfl) (by kernel_rfl) (fun _ _ _ h => h) (Or.inl ⟨by rfl, ?_⟩) (by assumption) ?_
            (rotate_left); (focus (intro wv hSw; (obtain ⟨qC, qD, qB⟩ := hSw);  go_simp; (try with_reducible rfl)))
            try simp only [Act.put, List.getElem_toArray, List.getElem_cons_succ, List.getElem_cons_zero, List.setIfInBounds_toArray, List.set_cons_zero, List.set_cons_succ]
            refine wpAnyH_take (i := 9) (oi := _) (v := ?_) rfl (by kernel_rfl) (by kernel_rfl) (by kernel_rfl) (fun _ _ _ h => h) (Or.inl ⟨by rfl, ?_⟩) (by assumption) ?_
            (rotate_left); (focus (intro wv hSw; (obtain ⟨qC, qD, qB⟩ := hSw);  go_simp; (try with_reducible rfl)))
            try simp only [Act.put, List.getElem_toArray, List.getElem_cons_succ, List.getElem_cons_zero, List.setIfInBounds_toArray, List.set_cons_zero, List.set_cons_succ]
            refine wpAnyH_take (i := 10) (oi := _) (v := ?_) rfl (by kernel_rfl) (by kernel_rfl) (by kernel_rfl) (fun _ _ _ h => h) (Or.inl ⟨by rfl, ?_⟩) (by assumption) ?_
            (rotate_left); (focus (intro wv hSw; (obtain ⟨qC, qD, qB⟩ := hSw);  go_simp; (try with_reducible rfl)))
            try simp only [Act.put, List.getElem_toArray, List.getElem_cons_succ, List.getElem_cons_zero, List.setIfInBounds_toArray, List.set_cons_zero, List.set_cons_succ]
            refine wpAnyH_take (i := 11) (oi := _) (v := ?_) rfl (by kernel_rfl) (by kernel_rfl) (by kernel_rfl) (fun _ _ _ h => h) (Or.inl ⟨by rfl, ?_⟩) (by assumption) ?_
            (rotate_left); (focus (intro wv hSw; (obtain ⟨qC, qD, qB⟩ := hSw);  go_simp; (try with_reducible rfl)))
            try simp only [Act.put, List.getElem_toArray, List.getElem_cons_succ, List.getElem_cons_zero, List.setIfInBounds_toArray, List.set_cons_zero, List.set_cons_succ]
            refine wpAnyH_take (i := 12) (oi := _) (v := ?_) rfl (by kernel_rfl) (by kernel_rfl) (by kernel_rfl) (fun _ _ _ h => h) (Or.inl ⟨by rfl, ?_⟩) (by assumption) ?_
            (rotate_left); (focus (intro wv hSw; (obtain ⟨qC, qD, qB⟩ := hSw);  go_simp; (try with_reducible rfl)))
            try simp only [Act.put, List.getElem_toArray, List.getElem_cons_succ, List.getElem_cons_zero, List.setIfInBounds_toArray, List.set_cons_zero, List.set_cons_succ]
            refine wpAnyH_take (i := 13) (oi := _) (v := ?_) rfl (by kernel_rfl) (by kernel_rfl) (by kernel_rfl) (fun _ _ _ h => h) (Or.inl ⟨by rfl, ?_⟩) (by assumption) ?_
            (rotate_left); (focus (intro wv hSw; (obtain ⟨qC, qD, qB⟩ := hSw);  go_simp; (try with_reducible rfl)))
            try simp only [Act.put, List.getElem_toArray, List.getElem_cons_succ, List.getElem_cons_zero, List.setIfInBounds_toArray, List.set_cons_zero, List.set_cons_succ]
            refine wpAnyH_take (i := 14) (oi := _) (v := ?_) rfl (by kernel_rfl) (by kernel_rfl) (by kernel_rfl) (fun _ _ _ h => h) (Or.inl ⟨by rfl, ?_⟩) (by assumption) ?_
            (rotate_left); (focus (intro wv hSw; (obtain ⟨qC, qD, qB⟩ := hSw);  go_simp; (try with_reducible rfl)))
            try simp only [Act.put, List.getElem_toArray, List.getElem_cons_succ, List.getElem_cons_zero, List.setIfInBounds_toArray, List.set_cons_zero, List.set_cons_succ]
            refine wpAnyH_take (i := 15) (oi := _) (v := ?_) rfl (by kernel_rfl) (by kernel_rfl) (by kernel_rfl) (fun _ _ _ h => h) (Or.inl ⟨by rfl, ?_⟩) (by assumption) ?_
            (rotate_left); (focus (intro wv hSw; (obtain ⟨qC, qD, qB⟩ := hSw);  go_simp; (try with_reducible rfl)))
            try simp only [Act.put, List.getElem_toArray, List.getElem_cons_succ, List.getElem_cons_zero, List.setIfInBounds_toArray, List.set_cons_zero, List.set_cons_succ]
            refine wpAnyH_take (i := 16) (oi := _) (v := ?_) rfl (by kernel_rfl) (by kernel_rfl) (by kernel_rfl) (fun _ _ _ h => h) (Or.inl ⟨by rfl, ?_⟩) (by assumption) ?_
            (rotate_left); (focus (intro wv hSw; (obtain ⟨qC, qD, qB⟩ := hSw);  go_simp; (try with_reducible rfl)))
            try simp only [Act.put, List.getElem_toArray, List.getElem_cons_succ, List.getElem_cons_zero, List.setIfInBounds_toArray, List.set_cons_zero, List.set_cons_succ]
            refine wpAnyH_done (by kernel_rfl) ?_ _
            have hcp := hB.size
            have hOa := (hO.alloc (.cells (encNum.enc (s + g - d)).toArray 3)).drew
            go_wp2_with (at_builtin; refine wpList_append_lies _ rfl (.tmp 45) (.tmp 47) _ rfl w.heap.size 3 i0 _ 1 8 Try.underlying32 HI.out.1 HI.out.2.1 HI.out.2.2.1 HI.out.2.2.2 rfl (by omega) (.slice V m cv) m (encNum.flat us) rfl (by unfold SOwn at hOa; rw [HM.out] at hOa; exact hOa) ⟨w1.heap.size, 0, none⟩ 1 1 (encNum.enc (s + g - d)) rfl rfl (new_enc (E := encNum) w1 (s + g - d) _) (encNum.one _) (by omega) (by simp only [maxLen]; omega) (by omega) (by simp; omega) _ rfl ?_; intro g5 cap5 w5 hown5 hgr5 hat5 hlt5)
            have hB5 := SOwn.below_grown (n := m) hOa (hB.alloc hB.size (.cells (encNum.enc (s + g - d)).toArray 3)).drew hgr5
            have hsn := SOwn.snoc (E := encNum) (xs := us) (x := s + g - d) (by rw [HM.out]; exact hown5)
            go_wp2_with fail
            go_roundw
            case rel =>
              exact ⟨k + 1, m + 1, cap5, some ⟨g5, 0, none⟩, us ++ [s + g - d], by omega, by rw [MK.out], by go_num, rfl, (by refine congrArg _ (Eq.trans ?_ H1.out.symm); (try rw [IntWalk.i64_in _ (by omega)]); (try omega)), Lib.hid (by rw [List.length_append, HM.out]; rfl), Lib.hid (by rw [H2.out, HU.out]), hsn, hB5⟩
            case measure => simp [intOf]; omega
      · obtain rfl : k = n := by omega
        have e9 : xs.take k = xs := List.take_of_length_le (by rw [HN.out]; omega)
        have HE9 := Lib.hid e9
        clear e9 mk
        go_wp2_with fail
        go_ret
        exact ⟨V, cv, ret_slice8 (by rw [stR_len, HN.out, MK.out]), by rw [← HE9.out, ← HU.out]; exact hO9, hB9⟩
set_option maxRecDepth 100000 in
set_option maxHeartbeats 4000000 in
theorem sSl_is (A : Option Addr) (cap : Nat) (xs : List VHour) {n : Nat} {holds has r : Int} (w : World) (hn : xs.length = n) (h : SRow encHour w A xs) (hl : n ≤ 2000000) (hr : laI xs holds has = r) :
    Calls Try.prog 21 #[.slice A n cap, .int .i64 holds, .int .i64 has] w fun E w' => E = .returned (.int .i64 r) ∧ Below w.heap.size w w' := by
  subst hr
  cases hb9 : stB xs holds has
  · have e1 : laI xs holds has = -1 := by unfold laI; rw [hb9]; rfl
    rw [e1]
    have HS := Lib.hid hb9
    clear e1 hb9
    go_enter Try.func21, Try.ntmps21
    go_wp2_with fail
    refine (sOk_is A cap xs _ hn h hl HS.out).mono ?_; rintro E w1 ⟨rfl, hw1⟩
    go_wp2
    go_ret
    exact ⟨rfl, hw1⟩
  · have e1 : laI xs holds has = laR holds has xs := by unfold laI; rw [hb9]; rfl
    rw [e1]
    have hl9 : stL xs holds has = stR holds has xs := by unfold stL; rw [hb9]; rfl
    have HL9 := Lib.hid hl9
    have HS := Lib.hid hb9
    clear e1 hl9
    obtain ⟨hv, h00, h01, h02, h03⟩ := stB_iff.1 hb9
    obtain ⟨_, hi2, hi3⟩ := stB_true hb9
    have hn10 : n ≤ 10 := by have := (hrB_iff.1 hv).1; omega
    have HV := Lib.hid hv
    have H2_ := Lib.hid hi2
    have H3_ := Lib.hid hi3
    have HN := Lib.hid hn
    clear hv hi2 hi3 hn
    clear hb9
    go_enter Try.func21, Try.ntmps21
    go_wp2_with fail
    refine (sOk_is A cap xs _ HN.out h hl HS.out).mono ?_; rintro E w1 ⟨rfl, hw1⟩
    go_wp2_with fail
    refine (sSr_is A cap xs _ HN.out (h.next hw1) hl HL9.out).mono ?_; rintro E w2 ⟨V, cv, rfl, hV2, hw2⟩
    have hB2 := bel_next hw1 hw2
    have hV := hV2.mono hw1.size
    have hLN : (stR holds has xs).length = n := by rw [stR_len, HN.out]
    rw [hLN]
    have HLN := Lib.hid hLN
    clear hLN hV2
    go_wp2_with fail
    go_loopw [2, 7, 9] (fun sv av i wr => ∃ (k : Nat), k ≤ n ∧ i = .int .i64 k ∧ sv = .int .i64 (stE holds has (xs.take k)) ∧ av = .int .i64 (laR holds has (xs.take k)) ∧ SOwn encNum wr w.heap.size 3 V cv (stR holds has xs) ∧ Below w.heap.size w wr) (fun _ _ i _ => (n - intOf i).toNat)
    case atStart => exact ⟨0, by omega, rfl, rfl, rfl, hV, hB2⟩
    case round =>
      clear hV
      obtain ⟨k, k1, rfl, rfl, rfl, hO, hB⟩ := hrel
      by_cases hlt : k < n
      · have hk : k < xs.length := by rw [HN.out]; exact hlt
        have hki : (k : Int) < (n : Int) := by omega
        obtain ⟨b, off, rfl, hb, c0, c1⟩ := rowHour (h.next hB) hk
        have HAT := Lib.hid (stR_at (holds := holds) (has := has) hk)
        have hk9 : k < (stR holds has xs).length := by rw [HLN.out]; exact hlt
        obtain ⟨gv, rfl, hgb, hgl⟩ := hO.at_ hk9
        have v0 := ownNum hO hk9
        have hat9 : (stR holds has xs)[k] = stE holds has (xs.take (k + 1)) := by have e9 := HAT.out; rw [List.getElem?_eq_getElem hk9] at e9; exact Option.some.inj e9
        rw [hat9] at v0
        clear hat9 HAT
        obtain ⟨hg0, hg1, hd0, hd1⟩ := hrB_at HV.out hk
        have hs1 := stE_step (holds := holds) (has := has) hk
        have hs2 := stR_step (holds := holds) (has := has) hk
        have hs3 := laR_step (holds := holds) (has := has) hk
        have hs4 := loR_step (holds := holds) (has := has) hk
        obtain ⟨hb0, hb1⟩ := stE_bd h00 (xs.take k) has h02 h03
        have hla := laR_bd h00 (xs.take k) has h02 (fun x hx => (hrB_iff.1 HV.out).2 x (List.mem_of_mem_take hx))
        have hlo := loR_bd h00 (xs.take k) has h03 (fun x hx => (hrB_iff.1 HV.out).2 x (List.mem_of_mem_take hx))
        have hla0 := laR_nn holds (xs.take k) has
        have hlo0 := loR_nn holds (xs.take k) has
        have hlt9 : (xs.take k).length ≤ 10 := by rw [List.length_take]; omega
        have hk10 : k < 10 := by omega
        unfold stS at hs1 hs2
        unfold laS at hs3
        unfold loS at hs4
        generalize xs[k].1 = g at c0 hg0 hg1 hs1 hs2 hs3 hs4
        generalize xs[k].2 = d at c1 hd0 hd1 hs1 hs2 hs3 hs4
        generalize stE holds has (xs.take k) = s at hb0 hb1 hs1 hs2 hs3 hs4 ⊢
        generalize laR holds has (xs.take k) = a at hs3 hla hla0 ⊢
        generalize loR holds has (xs.take k) = z at hs4 hlo hlo0 ⊢
        rw [hs1] at v0
        by_cases hx0 : s + g - d < 0
        · have e1 : min (max (s + g - d) 0) holds = 0 := by omega
          have e3 : max (-(s + g - d)) 0 = -(s + g - d) := by omega
          have e4 : max (s + g - d - holds) 0 = 0 := by omega
          rw [e1] at hs1 hs2
          rw [e3] at hs3
          rw [e4] at hs4
          clear e1 e3 e4
          have H1 := Lib.hid hs1
          have H2 := Lib.hid hs2
          have H3 := Lib.hid hs3
          have H4 := Lib.hid hs4
          clear hs1 hs2 hs3 hs4
          have hn1 : 0 < -(s + g - d) := by omega
          have hn2 : s + g - d - holds < 0 := by omega
          have hn3 : ¬ holds < 0 := by omega
          have wz1 : IntKind.i64.wrap (s + g) = s + g := IntWalk.i64_in _ (by omega)
          have wz2 : IntKind.i64.wrap (s + g - d) = s + g - d := IntWalk.i64_in _ (by omega)
          have e9 : min (max (s + g - d) 0) holds = 0 := by omega
          rw [e9] at v0
          clear e9
          have x1 : IntKind.i64.wrap (d - g) = d - g := IntWalk.i64_in _ (by omega)
          have x2 : IntKind.i64.wrap (d - g - s) = d - g - s := IntWalk.i64_in _ (by omega)
          have x3 : IntKind.i64.wrap (s + g - d - holds) = s + g - d - holds := IntWalk.i64_in _ (by omega)
          have j1 : (if d - g - s < 0 then (0 : Int) else d - g - s) = d - g - s := if_neg (by omega)
          have j2 : (if s + g - d - holds < 0 then (0 : Int) else s + g - d - holds) = 0 := if_pos (by omega)
          have j3 : IntKind.i64.wrap (a + (d - g - s)) = a + (d - g - s) := IntWalk.i64_in _ (by omega)
          have j4 : IntKind.i64.wrap a = a := IntWalk.i64_in _ (by omega)
          have j5 : IntKind.i64.wrap z = z := IntWalk.i64_in _ (by omega)
          have j6 : IntKind.i64.wrap (a + 0) = a := by rw [IntWalk.i64_in _ (by omega)]; omega
          have j7 : IntKind.i64.wrap (z + 0) = z := by rw [IntWalk.i64_in _ (by omega)]; omega
          go_wp2_with fail
          refine wp_region_held_drew (S := (fun w' => w'.cell? ⟨b, off + k * 2, none⟩ = some (.int .i64 g) ∧ w'.cell? ⟨b, off + k * 2 + 1, none⟩ = some (.int .i64 d) ∧ Below w.heap.size w w')) (by kernel_rfl) ⟨c0, c1, hB.drew⟩ (fun hHeld => ?_)
          obtain ⟨hC_0, hD_0, hB_0⟩ := id hHeld
          refine wpAnyH_take (i := 0) (oi := _) (v := ?_) rfl (by kernel_rfl) (by kernel_rfl) (by kernel_rfl) (fun _ _ _ h => h) (Or.inl ⟨by rfl, ?_⟩) (by assumption) ?_
          (rotate_left); (focus (intro wv hSw; (obtain ⟨qC, qD, qB⟩ := hSw);  go_simp; (try with_reducible rfl)))
          try simp only [Act.put, List.getElem_toArray, List.getElem_cons_succ, List.getElem_cons_zero, List.setIfInBounds_toArray, List.set_cons_zero, List.set_cons_succ]
          refine wpAnyH_take (i := 1) (oi := _) (v := ?_) rfl (by kernel_rfl) (by kernel_rfl) (by kernel_rfl) (fun _ _ _ h => h) (Or.inl ⟨by rfl, ?_⟩) (by assumption) ?_
          (rotate_left); (focus (intro wv hSw; (obtain ⟨qC, qD, qB⟩ := hSw);  go_simp; (try with_reducible rfl)))
          try simp only [Act.put, List.getElem_toArray, List.getElem_cons_succ, List.getElem_cons_zero, List.setIfInBounds_toArray, List.set_cons_zero, List.set_cons_succ]
          refine wpAnyH_take (i := 2) (oi := _) (v := ?_) rfl (by kernel_rfl) (by kernel_rfl) (by kernel_rfl) (fun _ _ _ h => h) (Or.inl ⟨by rfl, ?_⟩) (by assumption) ?_
          (rotate_left); (focus (intro wv hSw; (obtain ⟨qC, qD, qB⟩ := hSw);  go_simp; (try with_reducible rfl)))
          try simp only [Act.put, List.getElem_toArray, List.getElem_cons_succ, List.getElem_cons_zero, List.setIfInBounds_toArray, List.set_cons_zero, List.set_cons_succ]
          refine wpAnyH_take (i := 3) (oi := _) (v := ?_) rfl (by kernel_rfl) (by kernel_rfl) (by kernel_rfl) (fun _ _ _ h => h) (Or.inl ⟨by rfl, ?_⟩) (by assumption) ?_
          (rotate_left); (focus (intro wv hSw; (obtain ⟨qC, qD, qB⟩ := hSw);  go_simp; (try with_reducible rfl)))
          try simp only [Act.put, List.getElem_toArray, List.getElem_cons_succ, List.getElem_cons_zero, List.setIfInBounds_toArray, List.set_cons_zero, List.set_cons_succ]
          refine wpAnyH_take (i := 4) (oi := _) (v := ?_) rfl (by kernel_rfl) (by kernel_rfl) (by kernel_rfl) (fun _ _ _ h => h) (Or.inl ⟨by rfl, ?_⟩) (by assumption) ?_
          (rotate_left); (focus (intro wv hSw; (obtain ⟨qC, qD, qB⟩ := hSw);  go_simp; (try with_reducible rfl)))
          try simp only [Act.put, List.getElem_toArray, List.getElem_cons_succ, List.getElem_cons_zero, List.setIfInBounds_toArray, List.set_cons_zero, List.set_cons_succ]
          refine wpAnyH_take (i := 5) (oi := _) (v := ?_) rfl (by kernel_rfl) (by kernel_rfl) (by kernel_rfl) (fun _ _ _ h => h) (Or.inl ⟨by rfl, ?_⟩) (by assumption) ?_
          (rotate_left); (focus (intro wv hSw; (obtain ⟨qC, qD, qB⟩ := hSw);  go_simp; (try with_reducible rfl)))
          try simp only [Act.put, List.getElem_toArray, List.getElem_cons_succ, List.getElem_cons_zero, List.setIfInBounds_toArray, List.set_cons_zero, List.set_cons_succ]
          refine wpAnyH_take (i := 6) (oi := _) (v := ?_) rfl (by kernel_rfl) (by kernel_rfl) (by kernel_rfl) (fun _ _ _ h => h) (Or.inl ⟨by rfl, ?_⟩) (by assumption) ?_
          (rotate_left); (focus (intro wv hSw; (obtain ⟨qC, qD, qB⟩ := hSw);  go_simp; (try with_reducible rfl)))
          try simp only [Act.put, List.getElem_toArray, List.getElem_cons_succ, List.getElem_cons_zero, List.setIfInBounds_toArray, List.set_cons_zero, List.set_cons_succ]
          refine wpAnyH_take (i := 7) (oi := _) (v := ?_) rfl (by kernel_rfl) (by kernel_rfl) (by kernel_rfl) (fun _ _ _ h => h) (Or.inl ⟨by rfl, ?_⟩) (by assumption) ?_
          (rotate_left); (focus (intro wv hSw; (obtain ⟨qC, qD, qB⟩ := hSw);  go_simp; (try with_reducible rfl)))
          try simp only [Act.put, List.getElem_toArray, List.getElem_cons_succ, List.getElem_cons_zero, List.setIfInBounds_toArray, List.set_cons_zero, List.set_cons_succ]
          refine wpAnyH_take (i := 8) (oi := _) (v := ?_) rfl (by kernel_rfl) (by kernel_rfl) (by kernel_rfl) (fun _ _ _ h => h) (Or.inl ⟨by rfl, ?_⟩) (by assumption) ?_
          (rotate_left); (focus (intro wv hSw; (obtain ⟨qC, qD, qB⟩ := hSw);  go_simp; (try with_reducible rfl)))
          try simp only [Act.put, List.getElem_toArray, List.getElem_cons_succ, List.getElem_cons_zero, List.setIfInBounds_toArray, List.set_cons_zero, List.set_cons_succ]
          refine wpAnyH_take (i := 9) (oi := _) (v := ?_) rfl (by kernel_rfl) (by kernel_rfl) (by kernel_rfl) (fun _ _ _ h => h) (Or.inl ⟨by rfl, ?_⟩) (by assumption) ?_
          (rotate_left); (focus (intro wv hSw; (obtain ⟨qC, qD, qB⟩ := hSw);  go_simp; (try with_reducible rfl)))
          try simp only [Act.put, List.getElem_toArray, List.getElem_cons_succ, List.getElem_cons_zero, List.setIfInBounds_toArray, List.set_cons_zero, List.set_cons_succ]
          refine wpAnyH_take (i := 10) (oi := _) (v := ?_) rfl (by kernel_rfl) (by kernel_rfl) (by kernel_rfl) (fun _ _ _ h => h) (Or.inl ⟨by rfl, ?_⟩) (by assumption) ?_
          (rotate_left); (focus (intro wv hSw; (obtain ⟨qC, qD, qB⟩ := hSw);  go_simp; (try with_reducible rfl)))
          try simp only [Act.put, List.getElem_toArray, List.getElem_cons_succ, List.getElem_cons_zero, List.setIfInBounds_toArray, List.set_cons_zero, List.set_cons_succ]
          refine wpAnyH_take (i := 11) (oi := _) (v := ?_) rfl (by kernel_rfl) (by kernel_rfl) (by kernel_rfl) (fun _ _ _ h => h) (Or.inl ⟨by rfl, ?_⟩) (by assumption) ?_
          (rotate_left); (focus (intro wv hSw; (obtain ⟨qC, qD, qB⟩ := hSw);  go_simp; (try with_reducible rfl)))
          try simp only [Act.put, List.getElem_toArray, List.getElem_cons_succ, List.getElem_cons_zero, List.setIfInBounds_toArray, List.set_cons_zero, List.set_cons_succ]
          refine wpAnyH_take (i := 12) (oi := _) (v := ?_) rfl (by kernel_rfl) (by kernel_rfl) (by kernel_rfl) (fun _ _ _ h => h) (Or.inl ⟨by rfl, ?_⟩) (by assumption) ?_
          (rotate_left); (focus (intro wv hSw; (obtain ⟨qC, qD, qB⟩ := hSw);  go_simp; (try with_reducible rfl)))
          try simp only [Act.put, List.getElem_toArray, List.getElem_cons_succ, List.getElem_cons_zero, List.setIfInBounds_toArray, List.set_cons_zero, List.set_cons_succ]
          refine wpAnyH_take (i := 13) (oi := _) (v := ?_) rfl (by kernel_rfl) (by kernel_rfl) (by kernel_rfl) (fun _ _ _ h => h) (Or.inl ⟨by rfl, ?_⟩) (by assumption) ?_
          (rotate_left); (focus (intro wv hSw; (obtain ⟨qC, qD, qB⟩ := hSw);  go_simp; (try with_reducible rfl)))
          try simp only [Act.put, List.getElem_toArray, List.getElem_cons_succ, List.getElem_cons_zero, List.setIfInBounds_toArray, List.set_cons_zero, List.set_cons_succ]
          refine wpAnyH_take (i := 14) (oi := _) (v := ?_) rfl (by kernel_rfl) (by kernel_rfl) (by kernel_rfl) (fun _ _ _ h => h) (Or.inl ⟨by rfl, ?_⟩) (by assumption) ?_
          (rotate_left); (focus (intro wv hSw; (obtain ⟨qC, qD, qB⟩ := hSw);  go_simp; (try with_reducible rfl)))
          try simp only [Act.put, List.getElem_toArray, List.getElem_cons_succ, List.getElem_cons_zero, List.setIfInBounds_toArray, List.set_cons_zero, List.set_cons_succ]
          refine wpAnyH_take (i := 15) (oi := _) (v := ?_) rfl (by kernel_rfl) (by kernel_rfl) (by kernel_rfl) (fun _ _ _ h => h) (Or.inl ⟨by rfl, ?_⟩) (by assumption) ?_
          (rotate_left); (focus (intro wv hSw; (obtain ⟨qC, qD, qB⟩ := hSw);  go_simp; (try with_reducible rfl)))
          try simp only [Act.put, List.getElem_toArray, List.getElem_cons_succ, List.getElem_cons_zero, List.setIfInBounds_toArray, List.set_cons_zero, List.set_cons_succ]
          refine wpAnyH_take (i := 16) (oi := _) (v := ?_) rfl (by kernel_rfl) (by kernel_rfl) (by kernel_rfl) (fun _ _ _ h => h) (Or.inl ⟨by rfl, ?_⟩) (by assumption) ?_
          (rotate_left); (focus (intro wv hSw; (obtain ⟨qC, qD, qB⟩ := hSw);  go_simp; (try with_reducible rfl)))
          try simp only [Act.put, List.getElem_toArray, List.getElem_cons_succ, List.getElem_cons_zero, List.setIfInBounds_toArray, List.set_cons_zero, List.set_cons_succ]
          refine wpAnyH_done (by kernel_rfl) ?_ _
          go_wp2_with fail
          go_roundw
          case rel => exact ⟨k + 1, by omega, by go_num, (by refine congrArg _ (Eq.trans ?_ H1.out.symm); (try omega)), (by refine congrArg _ (Eq.trans ?_ H3.out.symm); (try rw [IntWalk.i64_in _ (by omega)]); (try omega)), hO.drew, hB_0⟩
          case measure => simp [intOf]; omega
        · by_cases hx1 : holds < s + g - d
          · have e1 : min (max (s + g - d) 0) holds = holds := by omega
            have e3 : max (-(s + g - d)) 0 = 0 := by omega
            have e4 : max (s + g - d - holds) 0 = s + g - d - holds := by omega
            rw [e1] at hs1 hs2
            rw [e3] at hs3
            rw [e4] at hs4
            clear e1 e3 e4
            have H1 := Lib.hid hs1
            have H2 := Lib.hid hs2
            have H3 := Lib.hid hs3
            have H4 := Lib.hid hs4
            clear hs1 hs2 hs3 hs4
            have hn1 : -(s + g - d) < 0 := by omega
            have hn2 : 0 < s + g - d - holds := by omega
            have wz1 : IntKind.i64.wrap (s + g) = s + g := IntWalk.i64_in _ (by omega)
            have wz2 : IntKind.i64.wrap (s + g - d) = s + g - d := IntWalk.i64_in _ (by omega)
            have e9 : min (max (s + g - d) 0) holds = holds := by omega
            rw [e9] at v0
            clear e9
            have x1 : IntKind.i64.wrap (d - g) = d - g := IntWalk.i64_in _ (by omega)
            have x2 : IntKind.i64.wrap (d - g - s) = d - g - s := IntWalk.i64_in _ (by omega)
            have x3 : IntKind.i64.wrap (s + g - d - holds) = s + g - d - holds := IntWalk.i64_in _ (by omega)
            have j1 : (if d - g - s < 0 then (0 : Int) else d - g - s) = 0 := if_pos (by omega)
            have j2 : (if s + g - d - holds < 0 then (0 : Int) else s + g - d - holds) = s + g - d - holds := if_neg (by omega)
            have j3 : IntKind.i64.wrap (z + (s + g - d - holds)) = z + (s + g - d - holds) := IntWalk.i64_in _ (by omega)
            have j4 : IntKind.i64.wrap a = a := IntWalk.i64_in _ (by omega)
            have j5 : IntKind.i64.wrap z = z := IntWalk.i64_in _ (by omega)
            have j6 : IntKind.i64.wrap (a + 0) = a := by rw [IntWalk.i64_in _ (by omega)]; omega
            have j7 : IntKind.i64.wrap (z + 0) = z := by rw [IntWalk.i64_in _ (by omega)]; omega
            go_wp2_with fail
            refine wp_region_held_drew (S := (fun w' => w'.cell? ⟨b, off + k * 2, none⟩ = some (.int .i64 g) ∧ w'.cell? ⟨b, off + k * 2 + 1, none⟩ = some (.int .i64 d) ∧ Below w.heap.size w w')) (by kernel_rfl) ⟨c0, c1, hB.drew⟩ (fun hHeld => ?_)
            obtain ⟨hC_0, hD_0, hB_0⟩ := id hHeld
            refine wpAnyH_take (i := 0) (oi := _) (v := ?_) rfl (by kernel_rfl) (by kernel_rfl) (by kernel_rfl) (fun _ _ _ h => h) (Or.inl ⟨by rfl, ?_⟩) (by assumption) ?_
            (rotate_left); (focus (intro wv hSw; (obtain ⟨qC, qD, qB⟩ := hSw);  go_simp; (try with_reducible rfl)))
            try simp only [Act.put, List.getElem_toArray, List.getElem_cons_succ, List.getElem_cons_zero, List.setIfInBounds_toArray, List.set_cons_zero, List.set_cons_succ]
            refine wpAnyH_take (i := 1) (oi := _) (v := ?_) rfl (by kernel_rfl) (by kernel_rfl) (by kernel_rfl) (fun _ _ _ h => h) (Or.inl ⟨by rfl, ?_⟩) (by assumption) ?_
            (rotate_left); (focus (intro wv hSw; (obtain ⟨qC, qD, qB⟩ := hSw);  go_simp; (try with_reducible rfl)))
            try simp only [Act.put, List.getElem_toArray, List.getElem_cons_succ, List.getElem_cons_zero, List.setIfInBounds_toArray, List.set_cons_zero, List.set_cons_succ]
            refine wpAnyH_take (i := 2) (oi := _) (v := ?_) rfl (by kernel_rfl) (by kernel_rfl) (by kernel_rfl) (fun _ _ _ h => h) (Or.inl ⟨by rfl, ?_⟩) (by assumption) ?_
            (rotate_left); (focus (intro wv hSw; (obtain ⟨qC, qD, qB⟩ := hSw);  go_simp; (try with_reducible rfl)))
            try simp only [Act.put, List.getElem_toArray, List.getElem_cons_succ, List.getElem_cons_zero, List.setIfInBounds_toArray, List.set_cons_zero, List.set_cons_succ]
            refine wpAnyH_take (i := 3) (oi := _) (v := ?_) rfl (by kernel_rfl) (by kernel_rfl) (by kernel_rfl) (fun _ _ _ h => h) (Or.inl ⟨by rfl, ?_⟩) (by assumption) ?_
            (rotate_left); (focus (intro wv hSw; (obtain ⟨qC, qD, qB⟩ := hSw);  go_simp; (try with_reducible rfl)))
            try simp only [Act.put, List.getElem_toArray, List.getElem_cons_succ, List.getElem_cons_zero, List.setIfInBounds_toArray, List.set_cons_zero, List.set_cons_succ]
            refine wpAnyH_take (i := 4) (oi := _) (v := ?_) rfl (by kernel_rfl) (by kernel_rfl) (by kernel_rfl) (fun _ _ _ h => h) (Or.inl ⟨by rfl, ?_⟩) (by assumption) ?_
            (rotate_left); (focus (intro wv hSw; (obtain ⟨qC, qD, qB⟩ := hSw);  go_simp; (try with_reducible rfl)))
            try simp only [Act.put, List.getElem_toArray, List.getElem_cons_succ, List.getElem_cons_zero, List.setIfInBounds_toArray, List.set_cons_zero, List.set_cons_succ]
            refine wpAnyH_take (i := 5) (oi := _) (v := ?_) rfl (by kernel_rfl) (by kernel_rfl) (by kernel_rfl) (fun _ _ _ h => h) (Or.inl ⟨by rfl, ?_⟩) (by assumption) ?_
            (rotate_left); (focus (intro wv hSw; (obtain ⟨qC, qD, qB⟩ := hSw);  go_simp; (try with_reducible rfl)))
            try simp only [Act.put, List.getElem_toArray, List.getElem_cons_succ, List.getElem_cons_zero, List.setIfInBounds_toArray, List.set_cons_zero, List.set_cons_succ]
            refine wpAnyH_take (i := 6) (oi := _) (v := ?_) rfl (by kernel_rfl) (by kernel_rfl) (by kernel_rfl) (fun _ _ _ h => h) (Or.inl ⟨by rfl, ?_⟩) (by assumption) ?_
            (rotate_left); (focus (intro wv hSw; (obtain ⟨qC, qD, qB⟩ := hSw);  go_simp; (try with_reducible rfl)))
            try simp only [Act.put, List.getElem_toArray, List.getElem_cons_succ, List.getElem_cons_zero, List.setIfInBounds_toArray, List.set_cons_zero, List.set_cons_succ]
            refine wpAnyH_take (i := 7) (oi := _) (v := ?_) rfl (by kernel_rfl) (by kernel_rfl) (by kernel_rfl) (fun _ _ _ h => h) (Or.inl ⟨by rfl, ?_⟩) (by assumption) ?_
            (rotate_left); (focus (intro wv hSw; (obtain ⟨qC, qD, qB⟩ := hSw);  go_simp; (try with_reducible rfl)))
            try simp only [Act.put, List.getElem_toArray, List.getElem_cons_succ, List.getElem_cons_zero, List.setIfInBounds_toArray, List.set_cons_zero, List.set_cons_succ]
            refine wpAnyH_take (i := 8) (oi := _) (v := ?_) rfl (by kernel_rfl) (by kernel_rfl) (by kernel_rfl) (fun _ _ _ h => h) (Or.inl ⟨by rfl, ?_⟩) (by assumption) ?_
            (rotate_left); (focus (intro wv hSw; (obtain ⟨qC, qD, qB⟩ := hSw);  go_simp; (try with_reducible rfl)))
            try simp only [Act.put, List.getElem_toArray, List.getElem_cons_succ, List.getElem_cons_zero, List.setIfInBounds_toArray, List.set_cons_zero, List.set_cons_succ]
            refine wpAnyH_take (i := 9) (oi := _) (v := ?_) rfl (by kernel_rfl) (by kernel_rfl) (by kernel_rfl) (fun _ _ _ h => h) (Or.inl ⟨by rfl, ?_⟩) (by assumption) ?_
            (rotate_left); (focus (intro wv hSw; (obtain ⟨qC, qD, qB⟩ := hSw);  go_simp; (try with_reducible rfl)))
            try simp only [Act.put, List.getElem_toArray, List.getElem_cons_succ, List.getElem_cons_zero, List.setIfInBounds_toArray, List.set_cons_zero, List.set_cons_succ]
            refine wpAnyH_take (i := 10) (oi := _) (v := ?_) rfl (by kernel_rfl) (by kernel_rfl) (by kernel_rfl) (fun _ _ _ h => h) (Or.inl ⟨by rfl, ?_⟩) (by assumption) ?_
            (rotate_left); (focus (intro wv hSw; (obtain ⟨qC, qD, qB⟩ := hSw);  go_simp; (try with_reducible rfl)))
            try simp only [Act.put, List.getElem_toArray, List.getElem_cons_succ, List.getElem_cons_zero, List.setIfInBounds_toArray, List.set_cons_zero, List.set_cons_succ]
            refine wpAnyH_take (i := 11) (oi := _) (v := ?_) rfl (by kernel_rfl) (by kernel_rfl) (by kernel_rfl) (fun _ _ _ h => h) (Or.inl ⟨by rfl, ?_⟩) (by assumption) ?_
            (rotate_left); (focus (intro wv hSw; (obtain ⟨qC, qD, qB⟩ := hSw);  go_simp; (try with_reducible rfl)))
            try simp only [Act.put, List.getElem_toArray, List.getElem_cons_succ, List.getElem_cons_zero, List.setIfInBounds_toArray, List.set_cons_zero, List.set_cons_succ]
            refine wpAnyH_take (i := 12) (oi := _) (v := ?_) rfl (by kernel_rfl) (by kernel_rfl) (by kernel_rfl) (fun _ _ _ h => h) (Or.inl ⟨by rfl, ?_⟩) (by assumption) ?_
            (rotate_left); (focus (intro wv hSw; (obtain ⟨qC, qD, qB⟩ := hSw);  go_simp; (try with_reducible rfl)))
            try simp only [Act.put, List.getElem_toArray, List.getElem_cons_succ, List.getElem_cons_zero, List.setIfInBounds_toArray, List.set_cons_zero, List.set_cons_succ]
            refine wpAnyH_take (i := 13) (oi := _) (v := ?_) rfl (by kernel_rfl) (by kernel_rfl) (by kernel_rfl) (fun _ _ _ h => h) (Or.inl ⟨by rfl, ?_⟩) (by assumption) ?_
            (rotate_left); (focus (intro wv hSw; (obtain ⟨qC, qD, qB⟩ := hSw);  go_simp; (try with_reducible rfl)))
            try simp only [Act.put, List.getElem_toArray, List.getElem_cons_succ, List.getElem_cons_zero, List.setIfInBounds_toArray, List.set_cons_zero, List.set_cons_succ]
            refine wpAnyH_take (i := 14) (oi := _) (v := ?_) rfl (by kernel_rfl) (by kernel_rfl) (by kernel_rfl) (fun _ _ _ h => h) (Or.inl ⟨by rfl, ?_⟩) (by assumption) ?_
            (rotate_left); (focus (intro wv hSw; (obtain ⟨qC, qD, qB⟩ := hSw);  go_simp; (try with_reducible rfl)))
            try simp only [Act.put, List.getElem_toArray, List.getElem_cons_succ, List.getElem_cons_zero, List.setIfInBounds_toArray, List.set_cons_zero, List.set_cons_succ]
            refine wpAnyH_take (i := 15) (oi := _) (v := ?_) rfl (by kernel_rfl) (by kernel_rfl) (by kernel_rfl) (fun _ _ _ h => h) (Or.inl ⟨by rfl, ?_⟩) (by assumption) ?_
            (rotate_left); (focus (intro wv hSw; (obtain ⟨qC, qD, qB⟩ := hSw);  go_simp; (try with_reducible rfl)))
            try simp only [Act.put, List.getElem_toArray, List.getElem_cons_succ, List.getElem_cons_zero, List.setIfInBounds_toArray, List.set_cons_zero, List.set_cons_succ]
            refine wpAnyH_take (i := 16) (oi := _) (v := ?_) rfl (by kernel_rfl) (by kernel_rfl) (by kernel_rfl) (fun _ _ _ h => h) (Or.inl ⟨by rfl, ?_⟩) (by assumption) ?_
            (rotate_left); (focus (intro wv hSw; (obtain ⟨qC, qD, qB⟩ := hSw);  go_simp; (try with_reducible rfl)))
            try simp only [Act.put, List.getElem_toArray, List.getElem_cons_succ, List.getElem_cons_zero, List.setIfInBounds_toArray, List.set_cons_zero, List.set_cons_succ]
            refine wpAnyH_done (by kernel_rfl) ?_ _
            go_wp2_with fail
            go_roundw
            case rel => exact ⟨k + 1, by omega, by go_num, (by refine congrArg _ (Eq.trans ?_ H1.out.symm); (try omega)), (by refine congrArg _ (Eq.trans ?_ H3.out.symm); (try rw [IntWalk.i64_in _ (by omega)]); (try omega)), hO.drew, hB_0⟩
            case measure => simp [intOf]; omega
          · have e1 : min (max (s + g - d) 0) holds = s + g - d := by omega
            have e3 : max (-(s + g - d)) 0 = 0 := by omega
            have e4 : max (s + g - d - holds) 0 = 0 := by omega
            rw [e1] at hs1 hs2
            rw [e3] at hs3
            rw [e4] at hs4
            clear e1 e3 e4
            have H1 := Lib.hid hs1
            have H2 := Lib.hid hs2
            have H3 := Lib.hid hs3
            have H4 := Lib.hid hs4
            clear hs1 hs2 hs3 hs4
            have hn1 : ¬ 0 < -(s + g - d) := by omega
            have hn2 : ¬ 0 < s + g - d - holds := by omega
            have wz1 : IntKind.i64.wrap (s + g) = s + g := IntWalk.i64_in _ (by omega)
            have wz2 : IntKind.i64.wrap (s + g - d) = s + g - d := IntWalk.i64_in _ (by omega)
            have e9 : min (max (s + g - d) 0) holds = s + g - d := by omega
            rw [e9] at v0
            clear e9
            have x1 : IntKind.i64.wrap (d - g) = d - g := IntWalk.i64_in _ (by omega)
            have x2 : IntKind.i64.wrap (d - g - s) = d - g - s := IntWalk.i64_in _ (by omega)
            have x3 : IntKind.i64.wrap (s + g - d - holds) = s + g - d - holds := IntWalk.i64_in _ (by omega)
            have j1 : (if d - g - s < 0 then (0 : Int) else d - g - s) = 0 := by split <;> omega
            have j2 : (if s + g - d - holds < 0 then (0 : Int) else s + g - d - holds) = 0 := by split <;> omega
            have j4 : IntKind.i64.wrap a = a := IntWalk.i64_in _ (by omega)
            have j5 : IntKind.i64.wrap z = z := IntWalk.i64_in _ (by omega)
            have j6 : IntKind.i64.wrap (a + 0) = a := by rw [IntWalk.i64_in _ (by omega)]; omega
            have j7 : IntKind.i64.wrap (z + 0) = z := by rw [IntWalk.i64_in _ (by omega)]; omega
            go_wp2_with fail
            refine wp_region_held_drew (S := (fun w' => w'.cell? ⟨b, off + k * 2, none⟩ = some (.int .i64 g) ∧ w'.cell? ⟨b, off + k * 2 + 1, none⟩ = some (.int .i64 d) ∧ Below w.heap.size w w')) (by kernel_rfl) ⟨c0, c1, hB.drew⟩ (fun hHeld => ?_)
            obtain ⟨hC_0, hD_0, hB_0⟩ := id hHeld
            refine wpAnyH_take (i := 0) (oi := _) (v := ?_) rfl (by kernel_rfl) (by kernel_rfl) (by kernel_rfl) (fun _ _ _ h => h) (Or.inl ⟨by rfl, ?_⟩) (by assumption) ?_
            (rotate_left); (focus (intro wv hSw; (obtain ⟨qC, qD, qB⟩ := hSw);  go_simp; (try with_reducible rfl)))
            try simp only [Act.put, List.getElem_toArray, List.getElem_cons_succ, List.getElem_cons_zero, List.setIfInBounds_toArray, List.set_cons_zero, List.set_cons_succ]
            refine wpAnyH_take (i := 1) (oi := _) (v := ?_) rfl (by kernel_rfl) (by kernel_rfl) (by kernel_rfl) (fun _ _ _ h => h) (Or.inl ⟨by rfl, ?_⟩) (by assumption) ?_
            (rotate_left); (focus (intro wv hSw; (obtain ⟨qC, qD, qB⟩ := hSw);  go_simp; (try with_reducible rfl)))
            try simp only [Act.put, List.getElem_toArray, List.getElem_cons_succ, List.getElem_cons_zero, List.setIfInBounds_toArray, List.set_cons_zero, List.set_cons_succ]
            refine wpAnyH_take (i := 2) (oi := _) (v := ?_) rfl (by kernel_rfl) (by kernel_rfl) (by kernel_rfl) (fun _ _ _ h => h) (Or.inl ⟨by rfl, ?_⟩) (by assumption) ?_
            (rotate_left); (focus (intro wv hSw; (obtain ⟨qC, qD, qB⟩ := hSw);  go_simp; (try with_reducible rfl)))
            try simp only [Act.put, List.getElem_toArray, List.getElem_cons_succ, List.getElem_cons_zero, List.setIfInBounds_toArray, List.set_cons_zero, List.set_cons_succ]
            refine wpAnyH_take (i := 3) (oi := _) (v := ?_) rfl (by kernel_rfl) (by kernel_rfl) (by kernel_rfl) (fun _ _ _ h => h) (Or.inl ⟨by rfl, ?_⟩) (by assumption) ?_
            (rotate_left); (focus (intro wv hSw; (obtain ⟨qC, qD, qB⟩ := hSw);  go_simp; (try with_reducible rfl)))
            try simp only [Act.put, List.getElem_toArray, List.getElem_cons_succ, List.getElem_cons_zero, List.setIfInBounds_toArray, List.set_cons_zero, List.set_cons_succ]
            refine wpAnyH_take (i := 4) (oi := _) (v := ?_) rfl (by kernel_rfl) (by kernel_rfl) (by kernel_rfl) (fun _ _ _ h => h) (Or.inl ⟨by rfl, ?_⟩) (by assumption) ?_
            (rotate_left); (focus (intro wv hSw; (obtain ⟨qC, qD, qB⟩ := hSw);  go_simp; (try with_reducible rfl)))
            try simp only [Act.put, List.getElem_toArray, List.getElem_cons_succ, List.getElem_cons_zero, List.setIfInBounds_toArray, List.set_cons_zero, List.set_cons_succ]
            refine wpAnyH_take (i := 5) (oi := _) (v := ?_) rfl (by kernel_rfl) (by kernel_rfl) (by kernel_rfl) (fun _ _ _ h => h) (Or.inl ⟨by rfl, ?_⟩) (by assumption) ?_
            (rotate_left); (focus (intro wv hSw; (obtain ⟨qC, qD, qB⟩ := hSw);  go_simp; (try with_reducible rfl)))
            try simp only [Act.put, List.getElem_toArray, List.getElem_cons_succ, List.getElem_cons_zero, List.setIfInBounds_toArray, List.set_cons_zero, List.set_cons_succ]
            refine wpAnyH_take (i := 6) (oi := _) (v := ?_) rfl (by kernel_rfl) (by kernel_rfl) (by kernel_rfl) (fun _ _ _ h => h) (Or.inl ⟨by rfl, ?_⟩) (by assumption) ?_
            (rotate_left); (focus (intro wv hSw; (obtain ⟨qC, qD, qB⟩ := hSw);  go_simp; (try with_reducible rfl)))
            try simp only [Act.put, List.getElem_toArray, List.getElem_cons_succ, List.getElem_cons_zero, List.setIfInBounds_toArray, List.set_cons_zero, List.set_cons_succ]
            refine wpAnyH_take (i := 7) (oi := _) (v := ?_) rfl (by kernel_rfl) (by kernel_rfl) (by kernel_rfl) (fun _ _ _ h => h) (Or.inl ⟨by rfl, ?_⟩) (by assumption) ?_
            (rotate_left); (focus (intro wv hSw; (obtain ⟨qC, qD, qB⟩ := hSw);  go_simp; (try with_reducible rfl)))
            try simp only [Act.put, List.getElem_toArray, List.getElem_cons_succ, List.getElem_cons_zero, List.setIfInBounds_toArray, List.set_cons_zero, List.set_cons_succ]
            refine wpAnyH_take (i := 8) (oi := _) (v := ?_) rfl (by kernel_rfl) (by kernel_rfl) (by kernel_rfl) (fun _ _ _ h => h) (Or.inl ⟨by rfl, ?_⟩) (by assumption) ?_
            (rotate_left); (focus (intro wv hSw; (obtain ⟨qC, qD, qB⟩ := hSw);  go_simp; (try with_reducible rfl)))
            try simp only [Act.put, List.getElem_toArray, List.getElem_cons_succ, List.getElem_cons_zero, List.setIfInBounds_toArray, List.set_cons_zero, List.set_cons_succ]
            refine wpAnyH_take (i := 9) (oi := _) (v := ?_) rfl (by kernel_rfl) (by kernel_rfl) (by kernel_rfl) (fun _ _ _ h => h) (Or.inl ⟨by rfl, ?_⟩) (by assumption) ?_
            (rotate_left); (focus (intro wv hSw; (obtain ⟨qC, qD, qB⟩ := hSw);  go_simp; (try with_reducible rfl)))
            try simp only [Act.put, List.getElem_toArray, List.getElem_cons_succ, List.getElem_cons_zero, List.setIfInBounds_toArray, List.set_cons_zero, List.set_cons_succ]
            refine wpAnyH_take (i := 10) (oi := _) (v := ?_) rfl (by kernel_rfl) (by kernel_rfl) (by kernel_rfl) (fun _ _ _ h => h) (Or.inl ⟨by rfl, ?_⟩) (by assumption) ?_
            (rotate_left); (focus (intro wv hSw; (obtain ⟨qC, qD, qB⟩ := hSw);  go_simp; (try with_reducible rfl)))
            try simp only [Act.put, List.getElem_toArray, List.getElem_cons_succ, List.getElem_cons_zero, List.setIfInBounds_toArray, List.set_cons_zero, List.set_cons_succ]
            refine wpAnyH_take (i := 11) (oi := _) (v := ?_) rfl (by kernel_rfl) (by kernel_rfl) (by kernel_rfl) (fun _ _ _ h => h) (Or.inl ⟨by rfl, ?_⟩) (by assumption) ?_
            (rotate_left); (focus (intro wv hSw; (obtain ⟨qC, qD, qB⟩ := hSw);  go_simp; (try with_reducible rfl)))
            try simp only [Act.put, List.getElem_toArray, List.getElem_cons_succ, List.getElem_cons_zero, List.setIfInBounds_toArray, List.set_cons_zero, List.set_cons_succ]
            refine wpAnyH_take (i := 12) (oi := _) (v := ?_) rfl (by kernel_rfl) (by kernel_rfl) (by kernel_rfl) (fun _ _ _ h => h) (Or.inl ⟨by rfl, ?_⟩) (by assumption) ?_
            (rotate_left); (focus (intro wv hSw; (obtain ⟨qC, qD, qB⟩ := hSw);  go_simp; (try with_reducible rfl)))
            try simp only [Act.put, List.getElem_toArray, List.getElem_cons_succ, List.getElem_cons_zero, List.setIfInBounds_toArray, List.set_cons_zero, List.set_cons_succ]
            refine wpAnyH_take (i := 13) (oi := _) (v := ?_) rfl (by kernel_rfl) (by kernel_rfl) (by kernel_rfl) (fun _ _ _ h => h) (Or.inl ⟨by rfl, ?_⟩) (by assumption) ?_
            (rotate_left); (focus (intro wv hSw; (obtain ⟨qC, qD, qB⟩ := hSw);  go_simp; (try with_reducible rfl)))
            try simp only [Act.put, List.getElem_toArray, List.getElem_cons_succ, List.getElem_cons_zero, List.setIfInBounds_toArray, List.set_cons_zero, List.set_cons_succ]
            refine wpAnyH_take (i := 14) (oi := _) (v := ?_) rfl (by kernel_rfl) (by kernel_rfl) (by kernel_rfl) (fun _ _ _ h => h) (Or.inl ⟨by rfl, ?_⟩) (by assumption) ?_
            (rotate_left); (focus (intro wv hSw; (obtain ⟨qC, qD, qB⟩ := hSw);  go_simp; (try with_reducible rfl)))
            try simp only [Act.put, List.getElem_toArray, List.getElem_cons_succ, List.getElem_cons_zero, List.setIfInBounds_toArray, List.set_cons_zero, List.set_cons_succ]
            refine wpAnyH_take (i := 15) (oi := _) (v := ?_) rfl (by kernel_rfl) (by kernel_rfl) (by kernel_rfl) (fun _ _ _ h => h) (Or.inl ⟨by rfl, ?_⟩) (by assumption) ?_
            (rotate_left); (focus (intro wv hSw; (obtain ⟨qC, qD, qB⟩ := hSw);  go_simp; (try with_reducible rfl)))
            try simp only [Act.put, List.getElem_toArray, List.getElem_cons_succ, List.getElem_cons_zero, List.setIfInBounds_toArray, List.set_cons_zero, List.set_cons_succ]
            refine wpAnyH_take (i := 16) (oi := _) (v := ?_) rfl (by kernel_rfl) (by kernel_rfl) (by kernel_rfl) (fun _ _ _ h => h) (Or.inl ⟨by rfl, ?_⟩) (by assumption) ?_
            (rotate_left); (focus (intro wv hSw; (obtain ⟨qC, qD, qB⟩ := hSw);  go_simp; (try with_reducible rfl)))
            try simp only [Act.put, List.getElem_toArray, List.getElem_cons_succ, List.getElem_cons_zero, List.setIfInBounds_toArray, List.set_cons_zero, List.set_cons_succ]
            refine wpAnyH_done (by kernel_rfl) ?_ _
            go_wp2_with fail
            go_roundw
            case rel => exact ⟨k + 1, by omega, by go_num, (by refine congrArg _ (Eq.trans ?_ H1.out.symm); (try omega)), (by refine congrArg _ (Eq.trans ?_ H3.out.symm); (try rw [IntWalk.i64_in _ (by omega)]); (try omega)), hO.drew, hB_0⟩
            case measure => simp [intOf]; omega
      · obtain rfl : k = n := by omega
        have e9 : xs.take k = xs := List.take_of_length_le (by rw [HN.out]; omega)
        rw [e9]
        clear e9
        go_wp2_with fail
        go_ret
        exact ⟨rfl, hB⟩
set_option maxRecDepth 100000 in
set_option maxHeartbeats 4000000 in
theorem sSo_is (A : Option Addr) (cap : Nat) (xs : List VHour) {n : Nat} {holds has r : Int} (w : World) (hn : xs.length = n) (h : SRow encHour w A xs) (hl : n ≤ 2000000) (hr : loI xs holds has = r) :
    Calls Try.prog 24 #[.slice A n cap, .int .i64 holds, .int .i64 has] w fun E w' => E = .returned (.int .i64 r) ∧ Below w.heap.size w w' := by
  subst hr
  cases hb9 : stB xs holds has
  · have e1 : loI xs holds has = -1 := by unfold loI; rw [hb9]; rfl
    rw [e1]
    have HS := Lib.hid hb9
    clear e1 hb9
    go_enter Try.func24, Try.ntmps24
    go_wp2_with fail
    refine (sOk_is A cap xs _ hn h hl HS.out).mono ?_; rintro E w1 ⟨rfl, hw1⟩
    go_wp2
    go_ret
    exact ⟨rfl, hw1⟩
  · have e1 : loI xs holds has = loR holds has xs := by unfold loI; rw [hb9]; rfl
    rw [e1]
    have hl9 : stL xs holds has = stR holds has xs := by unfold stL; rw [hb9]; rfl
    have HL9 := Lib.hid hl9
    have HS := Lib.hid hb9
    clear e1 hl9
    obtain ⟨hv, h00, h01, h02, h03⟩ := stB_iff.1 hb9
    obtain ⟨_, hi2, hi3⟩ := stB_true hb9
    have hn10 : n ≤ 10 := by have := (hrB_iff.1 hv).1; omega
    have HV := Lib.hid hv
    have H2_ := Lib.hid hi2
    have H3_ := Lib.hid hi3
    have HN := Lib.hid hn
    clear hv hi2 hi3 hn
    clear hb9
    go_enter Try.func24, Try.ntmps24
    go_wp2_with fail
    refine (sOk_is A cap xs _ HN.out h hl HS.out).mono ?_; rintro E w1 ⟨rfl, hw1⟩
    go_wp2_with fail
    refine (sSr_is A cap xs _ HN.out (h.next hw1) hl HL9.out).mono ?_; rintro E w2 ⟨V, cv, rfl, hV2, hw2⟩
    have hB2 := bel_next hw1 hw2
    have hV := hV2.mono hw1.size
    have hLN : (stR holds has xs).length = n := by rw [stR_len, HN.out]
    rw [hLN]
    have HLN := Lib.hid hLN
    clear hLN hV2
    go_wp2_with fail
    go_loopw [2, 7, 9] (fun sv av i wr => ∃ (k : Nat), k ≤ n ∧ i = .int .i64 k ∧ sv = .int .i64 (stE holds has (xs.take k)) ∧ av = .int .i64 (loR holds has (xs.take k)) ∧ SOwn encNum wr w.heap.size 3 V cv (stR holds has xs) ∧ Below w.heap.size w wr) (fun _ _ i _ => (n - intOf i).toNat)
    case atStart => exact ⟨0, by omega, rfl, rfl, rfl, hV, hB2⟩
    case round =>
      clear hV
      obtain ⟨k, k1, rfl, rfl, rfl, hO, hB⟩ := hrel
      by_cases hlt : k < n
      · have hk : k < xs.length := by rw [HN.out]; exact hlt
        have hki : (k : Int) < (n : Int) := by omega
        obtain ⟨b, off, rfl, hb, c0, c1⟩ := rowHour (h.next hB) hk
        have HAT := Lib.hid (stR_at (holds := holds) (has := has) hk)
        have hk9 : k < (stR holds has xs).length := by rw [HLN.out]; exact hlt
        obtain ⟨gv, rfl, hgb, hgl⟩ := hO.at_ hk9
        have v0 := ownNum hO hk9
        have hat9 : (stR holds has xs)[k] = stE holds has (xs.take (k + 1)) := by have e9 := HAT.out; rw [List.getElem?_eq_getElem hk9] at e9; exact Option.some.inj e9
        rw [hat9] at v0
        clear hat9 HAT
        obtain ⟨hg0, hg1, hd0, hd1⟩ := hrB_at HV.out hk
        have hs1 := stE_step (holds := holds) (has := has) hk
        have hs2 := stR_step (holds := holds) (has := has) hk
        have hs3 := laR_step (holds := holds) (has := has) hk
        have hs4 := loR_step (holds := holds) (has := has) hk
        obtain ⟨hb0, hb1⟩ := stE_bd h00 (xs.take k) has h02 h03
        have hla := laR_bd h00 (xs.take k) has h02 (fun x hx => (hrB_iff.1 HV.out).2 x (List.mem_of_mem_take hx))
        have hlo := loR_bd h00 (xs.take k) has h03 (fun x hx => (hrB_iff.1 HV.out).2 x (List.mem_of_mem_take hx))
        have hla0 := laR_nn holds (xs.take k) has
        have hlo0 := loR_nn holds (xs.take k) has
        have hlt9 : (xs.take k).length ≤ 10 := by rw [List.length_take]; omega
        have hk10 : k < 10 := by omega
        unfold stS at hs1 hs2
        unfold laS at hs3
        unfold loS at hs4
        generalize xs[k].1 = g at c0 hg0 hg1 hs1 hs2 hs3 hs4
        generalize xs[k].2 = d at c1 hd0 hd1 hs1 hs2 hs3 hs4
        generalize stE holds has (xs.take k) = s at hb0 hb1 hs1 hs2 hs3 hs4 ⊢
        generalize laR holds has (xs.take k) = a at hs3 hla hla0 ⊢
        generalize loR holds has (xs.take k) = z at hs4 hlo hlo0 ⊢
        rw [hs1] at v0
        by_cases hx0 : s + g - d < 0
        · have e1 : min (max (s + g - d) 0) holds = 0 := by omega
          have e3 : max (-(s + g - d)) 0 = -(s + g - d) := by omega
          have e4 : max (s + g - d - holds) 0 = 0 := by omega
          rw [e1] at hs1 hs2
          rw [e3] at hs3
          rw [e4] at hs4
          clear e1 e3 e4
          have H1 := Lib.hid hs1
          have H2 := Lib.hid hs2
          have H3 := Lib.hid hs3
          have H4 := Lib.hid hs4
          clear hs1 hs2 hs3 hs4
          have hn1 : 0 < -(s + g - d) := by omega
          have hn2 : s + g - d - holds < 0 := by omega
          have hn3 : ¬ holds < 0 := by omega
          have wz1 : IntKind.i64.wrap (s + g) = s + g := IntWalk.i64_in _ (by omega)
          have wz2 : IntKind.i64.wrap (s + g - d) = s + g - d := IntWalk.i64_in _ (by omega)
          have e9 : min (max (s + g - d) 0) holds = 0 := by omega
          rw [e9] at v0
          clear e9
          have x1 : IntKind.i64.wrap (d - g) = d - g := IntWalk.i64_in _ (by omega)
          have x2 : IntKind.i64.wrap (d - g - s) = d - g - s := IntWalk.i64_in _ (by omega)
          have x3 : IntKind.i64.wrap (s + g - d - holds) = s + g - d - holds := IntWalk.i64_in _ (by omega)
          have j1 : (if d - g - s < 0 then (0 : Int) else d - g - s) = d - g - s := if_neg (by omega)
          have j2 : (if s + g - d - holds < 0 then (0 : Int) else s + g - d - holds) = 0 := if_pos (by omega)
          have j3 : IntKind.i64.wrap (a + (d - g - s)) = a + (d - g - s) := IntWalk.i64_in _ (by omega)
          have j4 : IntKind.i64.wrap a = a := IntWalk.i64_in _ (by omega)
          have j5 : IntKind.i64.wrap z = z := IntWalk.i64_in _ (by omega)
          have j6 : IntKind.i64.wrap (a + 0) = a := by rw [IntWalk.i64_in _ (by omega)]; omega
          have j7 : IntKind.i64.wrap (z + 0) = z := by rw [IntWalk.i64_in _ (by omega)]; omega
          go_wp2_with fail
          refine wp_region_held_drew (S := (fun w' => w'.cell? ⟨b, off + k * 2, none⟩ = some (.int .i64 g) ∧ w'.cell? ⟨b, off + k * 2 + 1, none⟩ = some (.int .i64 d) ∧ Below w.heap.size w w')) (by kernel_rfl) ⟨c0, c1, hB.drew⟩ (fun hHeld => ?_)
          obtain ⟨hC_0, hD_0, hB_0⟩ := id hHeld
          refine wpAnyH_take (i := 0) (oi := _) (v := ?_) rfl (by kernel_rfl) (by kernel_rfl) (by kernel_rfl) (fun _ _ _ h => h) (Or.inl ⟨by rfl, ?_⟩) (by assumption) ?_
          (rotate_left); (focus (intro wv hSw; (obtain ⟨qC, qD, qB⟩ := hSw);  go_simp; (try with_reducible rfl)))
          try simp only [Act.put, List.getElem_toArray, List.getElem_cons_succ, List.getElem_cons_zero, List.setIfInBounds_toArray, List.set_cons_zero, List.set_cons_succ]
          refine wpAnyH_take (i := 1) (oi := _) (v := ?_) rfl (by kernel_rfl) (by kernel_rfl) (by kernel_rfl) (fun _ _ _ h => h) (Or.inl ⟨by rfl, ?_⟩) (by assumption) ?_
          (rotate_left); (focus (intro wv hSw; (obtain ⟨qC, qD, qB⟩ := hSw);  go_simp; (try with_reducible rfl)))
          try simp only [Act.put, List.getElem_toArray, List.getElem_cons_succ, List.getElem_cons_zero, List.setIfInBounds_toArray, List.set_cons_zero, List.set_cons_succ]
          refine wpAnyH_take (i := 2) (oi := _) (v := ?_) rfl (by kernel_rfl) (by kernel_rfl) (by kernel_rfl) (fun _ _ _ h => h) (Or.inl ⟨by rfl, ?_⟩) (by assumption) ?_
          (rotate_left); (focus (intro wv hSw; (obtain ⟨qC, qD, qB⟩ := hSw);  go_simp; (try with_reducible rfl)))
          try simp only [Act.put, List.getElem_toArray, List.getElem_cons_succ, List.getElem_cons_zero, List.setIfInBounds_toArray, List.set_cons_zero, List.set_cons_succ]
          refine wpAnyH_take (i := 3) (oi := _) (v := ?_) rfl (by kernel_rfl) (by kernel_rfl) (by kernel_rfl) (fun _ _ _ h => h) (Or.inl ⟨by rfl, ?_⟩) (by assumption) ?_
          (rotate_left); (focus (intro wv hSw; (obtain ⟨qC, qD, qB⟩ := hSw);  go_simp; (try with_reducible rfl)))
          try simp only [Act.put, List.getElem_toArray, List.getElem_cons_succ, List.getElem_cons_zero, List.setIfInBounds_toArray, List.set_cons_zero, List.set_cons_succ]
          refine wpAnyH_take (i := 4) (oi := _) (v := ?_) rfl (by kernel_rfl) (by kernel_rfl) (by kernel_rfl) (fun _ _ _ h => h) (Or.inl ⟨by rfl, ?_⟩) (by assumption) ?_
          (rotate_left); (focus (intro wv hSw; (obtain ⟨qC, qD, qB⟩ := hSw);  go_simp; (try with_reducible rfl)))
          try simp only [Act.put, List.getElem_toArray, List.getElem_cons_succ, List.getElem_cons_zero, List.setIfInBounds_toArray, List.set_cons_zero, List.set_cons_succ]
          refine wpAnyH_take (i := 5) (oi := _) (v := ?_) rfl (by kernel_rfl) (by kernel_rfl) (by kernel_rfl) (fun _ _ _ h => h) (Or.inl ⟨by rfl, ?_⟩) (by assumption) ?_
          (rotate_left); (focus (intro wv hSw; (obtain ⟨qC, qD, qB⟩ := hSw);  go_simp; (try with_reducible rfl)))
          try simp only [Act.put, List.getElem_toArray, List.getElem_cons_succ, List.getElem_cons_zero, List.setIfInBounds_toArray, List.set_cons_zero, List.set_cons_succ]
          refine wpAnyH_take (i := 6) (oi := _) (v := ?_) rfl (by kernel_rfl) (by kernel_rfl) (by kernel_rfl) (fun _ _ _ h => h) (Or.inl ⟨by rfl, ?_⟩) (by assumption) ?_
          (rotate_left); (focus (intro wv hSw; (obtain ⟨qC, qD, qB⟩ := hSw);  go_simp; (try with_reducible rfl)))
          try simp only [Act.put, List.getElem_toArray, List.getElem_cons_succ, List.getElem_cons_zero, List.setIfInBounds_toArray, List.set_cons_zero, List.set_cons_succ]
          refine wpAnyH_take (i := 7) (oi := _) (v := ?_) rfl (by kernel_rfl) (by kernel_rfl) (by kernel_rfl) (fun _ _ _ h => h) (Or.inl ⟨by rfl, ?_⟩) (by assumption) ?_
          (rotate_left); (focus (intro wv hSw; (obtain ⟨qC, qD, qB⟩ := hSw);  go_simp; (try with_reducible rfl)))
          try simp only [Act.put, List.getElem_toArray, List.getElem_cons_succ, List.getElem_cons_zero, List.setIfInBounds_toArray, List.set_cons_zero, List.set_cons_succ]
          refine wpAnyH_take (i := 8) (oi := _) (v := ?_) rfl (by kernel_rfl) (by kernel_rfl) (by kernel_rfl) (fun _ _ _ h => h) (Or.inl ⟨by rfl, ?_⟩) (by assumption) ?_
          (rotate_left); (focus (intro wv hSw; (obtain ⟨qC, qD, qB⟩ := hSw);  go_simp; (try with_reducible rfl)))
          try simp only [Act.put, List.getElem_toArray, List.getElem_cons_succ, List.getElem_cons_zero, List.setIfInBounds_toArray, List.set_cons_zero, List.set_cons_succ]
          refine wpAnyH_take (i := 9) (oi := _) (v := ?_) rfl (by kernel_rfl) (by kernel_rfl) (by kernel_rfl) (fun _ _ _ h => h) (Or.inl ⟨by rfl, ?_⟩) (by assumption) ?_
          (rotate_left); (focus (intro wv hSw; (obtain ⟨qC, qD, qB⟩ := hSw);  go_simp; (try with_reducible rfl)))
          try simp only [Act.put, List.getElem_toArray, List.getElem_cons_succ, List.getElem_cons_zero, List.setIfInBounds_toArray, List.set_cons_zero, List.set_cons_succ]
          refine wpAnyH_take (i := 10) (oi := _) (v := ?_) rfl (by kernel_rfl) (by kernel_rfl) (by kernel_rfl) (fun _ _ _ h => h) (Or.inl ⟨by rfl, ?_⟩) (by assumption) ?_
          (rotate_left); (focus (intro wv hSw; (obtain ⟨qC, qD, qB⟩ := hSw);  go_simp; (try with_reducible rfl)))
          try simp only [Act.put, List.getElem_toArray, List.getElem_cons_succ, List.getElem_cons_zero, List.setIfInBounds_toArray, List.set_cons_zero, List.set_cons_succ]
          refine wpAnyH_take (i := 11) (oi := _) (v := ?_) rfl (by kernel_rfl) (by kernel_rfl) (by kernel_rfl) (fun _ _ _ h => h) (Or.inl ⟨by rfl, ?_⟩) (by assumption) ?_
          (rotate_left); (focus (intro wv hSw; (obtain ⟨qC, qD, qB⟩ := hSw);  go_simp; (try with_reducible rfl)))
          try simp only [Act.put, List.getElem_toArray, List.getElem_cons_succ, List.getElem_cons_zero, List.setIfInBounds_toArray, List.set_cons_zero, List.set_cons_succ]
          refine wpAnyH_take (i := 12) (oi := _) (v := ?_) rfl (by kernel_rfl) (by kernel_rfl) (by kernel_rfl) (fun _ _ _ h => h) (Or.inl ⟨by rfl, ?_⟩) (by assumption) ?_
          (rotate_left); (focus (intro wv hSw; (obtain ⟨qC, qD, qB⟩ := hSw);  go_simp; (try with_reducible rfl)))
          try simp only [Act.put, List.getElem_toArray, List.getElem_cons_succ, List.getElem_cons_zero, List.setIfInBounds_toArray, List.set_cons_zero, List.set_cons_succ]
          refine wpAnyH_take (i := 13) (oi := _) (v := ?_) rfl (by kernel_rfl) (by kernel_rfl) (by kernel_rfl) (fun _ _ _ h => h) (Or.inl ⟨by rfl, ?_⟩) (by assumption) ?_
          (rotate_left); (focus (intro wv hSw; (obtain ⟨qC, qD, qB⟩ := hSw);  go_simp; (try with_reducible rfl)))
          try simp only [Act.put, List.getElem_toArray, List.getElem_cons_succ, List.getElem_cons_zero, List.setIfInBounds_toArray, List.set_cons_zero, List.set_cons_succ]
          refine wpAnyH_take (i := 14) (oi := _) (v := ?_) rfl (by kernel_rfl) (by kernel_rfl) (by kernel_rfl) (fun _ _ _ h => h) (Or.inl ⟨by rfl, ?_⟩) (by assumption) ?_
          (rotate_left); (focus (intro wv hSw; (obtain ⟨qC, qD, qB⟩ := hSw);  go_simp; (try with_reducible rfl)))
          try simp only [Act.put, List.getElem_toArray, List.getElem_cons_succ, List.getElem_cons_zero, List.setIfInBounds_toArray, List.set_cons_zero, List.set_cons_succ]
          refine wpAnyH_take (i := 15) (oi := _) (v := ?_) rfl (by kernel_rfl) (by kernel_rfl) (by kernel_rfl) (fun _ _ _ h => h) (Or.inl ⟨by rfl, ?_⟩) (by assumption) ?_
          (rotate_left); (focus (intro wv hSw; (obtain ⟨qC, qD, qB⟩ := hSw);  go_simp; (try with_reducible rfl)))
          try simp only [Act.put, List.getElem_toArray, List.getElem_cons_succ, List.getElem_cons_zero, List.setIfInBounds_toArray, List.set_cons_zero, List.set_cons_succ]
          refine wpAnyH_take (i := 16) (oi := _) (v := ?_) rfl (by kernel_rfl) (by kernel_rfl) (by kernel_rfl) (fun _ _ _ h => h) (Or.inl ⟨by rfl, ?_⟩) (by assumption) ?_
          (rotate_left); (focus (intro wv hSw; (obtain ⟨qC, qD, qB⟩ := hSw);  go_simp; (try with_reducible rfl)))
          try simp only [Act.put, List.getElem_toArray, List.getElem_cons_succ, List.getElem_cons_zero, List.setIfInBounds_toArray, List.set_cons_zero, List.set_cons_succ]
          refine wpAnyH_take (i := 17) (oi := _) (v := ?_) rfl (by kernel_rfl) (by kernel_rfl) (by kernel_rfl) (fun _ _ _ h => h) (Or.inl ⟨by rfl, ?_⟩) (by assumption) ?_
          (rotate_left); (focus (intro wv hSw; (obtain ⟨qC, qD, qB⟩ := hSw);  go_simp; (try with_reducible rfl)))
          try simp only [Act.put, List.getElem_toArray, List.getElem_cons_succ, List.getElem_cons_zero, List.setIfInBounds_toArray, List.set_cons_zero, List.set_cons_succ]
          refine wpAnyH_take (i := 18) (oi := _) (v := ?_) rfl (by kernel_rfl) (by kernel_rfl) (by kernel_rfl) (fun _ _ _ h => h) (Or.inl ⟨by rfl, ?_⟩) (by assumption) ?_
          (rotate_left); (focus (intro wv hSw; (obtain ⟨qC, qD, qB⟩ := hSw);  go_simp; (try with_reducible rfl)))
          try simp only [Act.put, List.getElem_toArray, List.getElem_cons_succ, List.getElem_cons_zero, List.setIfInBounds_toArray, List.set_cons_zero, List.set_cons_succ]
          refine wpAnyH_done (by kernel_rfl) ?_ _
          go_wp2_with fail
          go_roundw
          case rel => exact ⟨k + 1, by omega, by go_num, (by refine congrArg _ (Eq.trans ?_ H1.out.symm); (try omega)), (by refine congrArg _ (Eq.trans ?_ H4.out.symm); (try rw [IntWalk.i64_in _ (by omega)]); (try omega)), hO.drew, hB_0⟩
          case measure => simp [intOf]; omega
        · by_cases hx1 : holds < s + g - d
          · have e1 : min (max (s + g - d) 0) holds = holds := by omega
            have e3 : max (-(s + g - d)) 0 = 0 := by omega
            have e4 : max (s + g - d - holds) 0 = s + g - d - holds := by omega
            rw [e1] at hs1 hs2
            rw [e3] at hs3
            rw [e4] at hs4
            clear e1 e3 e4
            have H1 := Lib.hid hs1
            have H2 := Lib.hid hs2
            have H3 := Lib.hid hs3
            have H4 := Lib.hid hs4
            clear hs1 hs2 hs3 hs4
            have hn1 : -(s + g - d) < 0 := by omega
            have hn2 : 0 < s + g - d - holds := by omega
            have wz1 : IntKind.i64.wrap (s + g) = s + g := IntWalk.i64_in _ (by omega)
            have wz2 : IntKind.i64.wrap (s + g - d) = s + g - d := IntWalk.i64_in _ (by omega)
            have e9 : min (max (s + g - d) 0) holds = holds := by omega
            rw [e9] at v0
            clear e9
            have x1 : IntKind.i64.wrap (d - g) = d - g := IntWalk.i64_in _ (by omega)
            have x2 : IntKind.i64.wrap (d - g - s) = d - g - s := IntWalk.i64_in _ (by omega)
            have x3 : IntKind.i64.wrap (s + g - d - holds) = s + g - d - holds := IntWalk.i64_in _ (by omega)
            have j1 : (if d - g - s < 0 then (0 : Int) else d - g - s) = 0 := if_pos (by omega)
            have j2 : (if s + g - d - holds < 0 then (0 : Int) else s + g - d - holds) = s + g - d - holds := if_neg (by omega)
            have j3 : IntKind.i64.wrap (z + (s + g - d - holds)) = z + (s + g - d - holds) := IntWalk.i64_in _ (by omega)
            have j4 : IntKind.i64.wrap a = a := IntWalk.i64_in _ (by omega)
            have j5 : IntKind.i64.wrap z = z := IntWalk.i64_in _ (by omega)
            have j6 : IntKind.i64.wrap (a + 0) = a := by rw [IntWalk.i64_in _ (by omega)]; omega
            have j7 : IntKind.i64.wrap (z + 0) = z := by rw [IntWalk.i64_in _ (by omega)]; omega
            go_wp2_with fail
            refine wp_region_held_drew (S := (fun w' => w'.cell? ⟨b, off + k * 2, none⟩ = some (.int .i64 g) ∧ w'.cell? ⟨b, off + k * 2 + 1, none⟩ = some (.int .i64 d) ∧ Below w.heap.size w w')) (by kernel_rfl) ⟨c0, c1, hB.drew⟩ (fun hHeld => ?_)
            obtain ⟨hC_0, hD_0, hB_0⟩ := id hHeld
            refine wpAnyH_take (i := 0) (oi := _) (v := ?_) rfl (by kernel_rfl) (by kernel_rfl) (by kernel_rfl) (fun _ _ _ h => h) (Or.inl ⟨by rfl, ?_⟩) (by assumption) ?_
            (rotate_left); (focus (intro wv hSw; (obtain ⟨qC, qD, qB⟩ := hSw);  go_simp; (try with_reducible rfl)))
            try simp only [Act.put, List.getElem_toArray, List.getElem_cons_succ, List.getElem_cons_zero, List.setIfInBounds_toArray, List.set_cons_zero, List.set_cons_succ]
            refine wpAnyH_take (i := 1) (oi := _) (v := ?_) rfl (by kernel_rfl) (by kernel_rfl) (by kernel_rfl) (fun _ _ _ h => h) (Or.inl ⟨by rfl, ?_⟩) (by assumption) ?_
            (rotate_left); (focus (intro wv hSw; (obtain ⟨qC, qD, qB⟩ := hSw);  go_simp; (try with_reducible rfl)))
            try simp only [Act.put, List.getElem_toArray, List.getElem_cons_succ, List.getElem_cons_zero, List.setIfInBounds_toArray, List.set_cons_zero, List.set_cons_succ]
            refine wpAnyH_take (i := 2) (oi := _) (v := ?_) rfl (by kernel_rfl) (by kernel_rfl) (by kernel_rfl) (fun _ _ _ h => h) (Or.inl ⟨by rfl, ?_⟩) (by assumption) ?_
            (rotate_left); (focus (intro wv hSw; (obtain ⟨qC, qD, qB⟩ := hSw);  go_simp; (try with_reducible rfl)))
            try simp only [Act.put, List.getElem_toArray, List.getElem_cons_succ, List.getElem_cons_zero, List.setIfInBounds_toArray, List.set_cons_zero, List.set_cons_succ]
            refine wpAnyH_take (i := 3) (oi := _) (v := ?_) rfl (by kernel_rfl) (by kernel_rfl) (by kernel_rfl) (fun _ _ _ h => h) (Or.inl ⟨by rfl, ?_⟩) (by assumption) ?_
            (rotate_left); (focus (intro wv hSw; (obtain ⟨qC, qD, qB⟩ := hSw);  go_simp; (try with_reducible rfl)))
            try simp only [Act.put, List.getElem_toArray, List.getElem_cons_succ, List.getElem_cons_zero, List.setIfInBounds_toArray, List.set_cons_zero, List.set_cons_succ]
            refine wpAnyH_take (i := 4) (oi := _) (v := ?_) rfl (by kernel_rfl) (by kernel_rfl) (by kernel_rfl) (fun _ _ _ h => h) (Or.inl ⟨by rfl, ?_⟩) (by assumption) ?_
            (rotate_left); (focus (intro wv hSw; (obtain ⟨qC, qD, qB⟩ := hSw);  go_simp; (try with_reducible rfl)))
            try simp only [Act.put, List.getElem_toArray, List.getElem_cons_succ, List.getElem_cons_zero, List.setIfInBounds_toArray, List.set_cons_zero, List.set_cons_succ]
            refine wpAnyH_take (i := 5) (oi := _) (v := ?_) rfl (by kernel_rfl) (by kernel_rfl) (by kernel_rfl) (fun _ _ _ h => h) (Or.inl ⟨by rfl, ?_⟩) (by assumption) ?_
            (rotate_left); (focus (intro wv hSw; (obtain ⟨qC, qD, qB⟩ := hSw);  go_simp; (try with_reducible rfl)))
            try simp only [Act.put, List.getElem_toArray, List.getElem_cons_succ, List.getElem_cons_zero, List.setIfInBounds_toArray, List.set_cons_zero, List.set_cons_succ]
            refine wpAnyH_take (i := 6) (oi := _) (v := ?_) rfl (by kernel_rfl) (by kernel_rfl) (by kernel_rfl) (fun _ _ _ h => h) (Or.inl ⟨by rfl, ?_⟩) (by assumption) ?_
            (rotate_left); (focus (intro wv hSw; (obtain ⟨qC, qD, qB⟩ := hSw);  go_simp; (try with_reducible rfl)))
            try simp only [Act.put, List.getElem_toArray, List.getElem_cons_succ, List.getElem_cons_zero, List.setIfInBounds_toArray, List.set_cons_zero, List.set_cons_succ]
            refine wpAnyH_take (i := 7) (oi := _) (v := ?_) rfl (by kernel_rfl) (by kernel_rfl) (by kernel_rfl) (fun _ _ _ h => h) (Or.inl ⟨by rfl, ?_⟩) (by assumption) ?_
            (rotate_left); (focus (intro wv hSw; (obtain ⟨qC, qD, qB⟩ := hSw);  go_simp; (try with_reducible rfl)))
            try simp only [Act.put, List.getElem_toArray, List.getElem_cons_succ, List.getElem_cons_zero, List.setIfInBounds_toArray, List.set_cons_zero, List.set_cons_succ]
            refine wpAnyH_take (i := 8) (oi := _) (v := ?_) rfl (by kernel_rfl) (by kernel_rfl) (by kernel_rfl) (fun _ _ _ h => h) (Or.inl ⟨by rfl, ?_⟩) (by assumption) ?_
            (rotate_left); (focus (intro wv hSw; (obtain ⟨qC, qD, qB⟩ := hSw);  go_simp; (try with_reducible rfl)))
            try simp only [Act.put, List.getElem_toArray, List.getElem_cons_succ, List.getElem_cons_zero, List.setIfInBounds_toArray, List.set_cons_zero, List.set_cons_succ]
            refine wpAnyH_take (i := 9) (oi := _) (v := ?_) rfl (by kernel_rfl) (by kernel_rfl) (by kernel_rfl) (fun _ _ _ h => h) (Or.inl ⟨by rfl, ?_⟩) (by assumption) ?_
            (rotate_left); (focus (intro wv hSw; (obtain ⟨qC, qD, qB⟩ := hSw);  go_simp; (try with_reducible rfl)))
            try simp only [Act.put, List.getElem_toArray, List.getElem_cons_succ, List.getElem_cons_zero, List.setIfInBounds_toArray, List.set_cons_zero, List.set_cons_succ]
            refine wpAnyH_take (i := 10) (oi := _) (v := ?_) rfl (by kernel_rfl) (by kernel_rfl) (by kernel_rfl) (fun _ _ _ h => h) (Or.inl ⟨by rfl, ?_⟩) (by assumption) ?_
            (rotate_left); (focus (intro wv hSw; (obtain ⟨qC, qD, qB⟩ := hSw);  go_simp; (try with_reducible rfl)))
            try simp only [Act.put, List.getElem_toArray, List.getElem_cons_succ, List.getElem_cons_zero, List.setIfInBounds_toArray, List.set_cons_zero, List.set_cons_succ]
            refine wpAnyH_take (i := 11) (oi := _) (v := ?_) rfl (by kernel_rfl) (by kernel_rfl) (by kernel_rfl) (fun _ _ _ h => h) (Or.inl ⟨by rfl, ?_⟩) (by assumption) ?_
            (rotate_left); (focus (intro wv hSw; (obtain ⟨qC, qD, qB⟩ := hSw);  go_simp; (try with_reducible rfl)))
            try simp only [Act.put, List.getElem_toArray, List.getElem_cons_succ, List.getElem_cons_zero, List.setIfInBounds_toArray, List.set_cons_zero, List.set_cons_succ]
            refine wpAnyH_take (i := 12) (oi := _) (v := ?_) rfl (by kernel_rfl) (by kernel_rfl) (by kernel_rfl) (fun _ _ _ h => h) (Or.inl ⟨by rfl, ?_⟩) (by assumption) ?_
            (rotate_left); (focus (intro wv hSw; (obtain ⟨qC, qD, qB⟩ := hSw);  go_simp; (try with_reducible rfl)))
            try simp only [Act.put, List.getElem_toArray, List.getElem_cons_succ, List.getElem_cons_zero, List.setIfInBounds_toArray, List.set_cons_zero, List.set_cons_succ]
            refine wpAnyH_take (i := 13) (oi := _) (v := ?_) rfl (by kernel_rfl) (by kernel_rfl) (by kernel_rfl) (fun _ _ _ h => h) (Or.inl ⟨by rfl, ?_⟩) (by assumption) ?_
            (rotate_left); (focus (intro wv hSw; (obtain ⟨qC, qD, qB⟩ := hSw);  go_simp; (try with_reducible rfl)))
            try simp only [Act.put, List.getElem_toArray, List.getElem_cons_succ, List.getElem_cons_zero, List.setIfInBounds_toArray, List.set_cons_zero, List.set_cons_succ]
            refine wpAnyH_take (i := 14) (oi := _) (v := ?_) rfl (by kernel_rfl) (by kernel_rfl) (by kernel_rfl) (fun _ _ _ h => h) (Or.inl ⟨by rfl, ?_⟩) (by assumption) ?_
            (rotate_left); (focus (intro wv hSw; (obtain ⟨qC, qD, qB⟩ := hSw);  go_simp; (try with_reducible rfl)))
            try simp only [Act.put, List.getElem_toArray, List.getElem_cons_succ, List.getElem_cons_zero, List.setIfInBounds_toArray, List.set_cons_zero, List.set_cons_succ]
            refine wpAnyH_take (i := 15) (oi := _) (v := ?_) rfl (by kernel_rfl) (by kernel_rfl) (by kernel_rfl) (fun _ _ _ h => h) (Or.inl ⟨by rfl, ?_⟩) (by assumption) ?_
            (rotate_left); (focus (intro wv hSw; (obtain ⟨qC, qD, qB⟩ := hSw);  go_simp; (try with_reducible rfl)))
            try simp only [Act.put, List.getElem_toArray, List.getElem_cons_succ, List.getElem_cons_zero, List.setIfInBounds_toArray, List.set_cons_zero, List.set_cons_succ]
            refine wpAnyH_take (i := 16) (oi := _) (v := ?_) rfl (by kernel_rfl) (by kernel_rfl) (by kernel_rfl) (fun _ _ _ h => h) (Or.inl ⟨by rfl, ?_⟩) (by assumption) ?_
            (rotate_left); (focus (intro wv hSw; (obtain ⟨qC, qD, qB⟩ := hSw);  go_simp; (try with_reducible rfl)))
            try simp only [Act.put, List.getElem_toArray, List.getElem_cons_succ, List.getElem_cons_zero, List.setIfInBounds_toArray, List.set_cons_zero, List.set_cons_succ]
            refine wpAnyH_take (i := 17) (oi := _) (v := ?_) rfl (by kernel_rfl) (by kernel_rfl) (by kernel_rfl) (fun _ _ _ h => h) (Or.inl ⟨by rfl, ?_⟩) (by assumption) ?_
            (rotate_left); (focus (intro wv hSw; (obtain ⟨qC, qD, qB⟩ := hSw);  go_simp; (try with_reducible rfl)))
            try simp only [Act.put, List.getElem_toArray, List.getElem_cons_succ, List.getElem_cons_zero, List.setIfInBounds_toArray, List.set_cons_zero, List.set_cons_succ]
            refine wpAnyH_take (i := 18) (oi := _) (v := ?_) rfl (by kernel_rfl) (by kernel_rfl) (by kernel_rfl) (fun _ _ _ h => h) (Or.inl ⟨by rfl, ?_⟩) (by assumption) ?_
            (rotate_left); (focus (intro wv hSw; (obtain ⟨qC, qD, qB⟩ := hSw);  go_simp; (try with_reducible rfl)))
            try simp only [Act.put, List.getElem_toArray, List.getElem_cons_succ, List.getElem_cons_zero, List.setIfInBounds_toArray, List.set_cons_zero, List.set_cons_succ]
            refine wpAnyH_done (by kernel_rfl) ?_ _
            go_wp2_with fail
            go_roundw
            case rel => exact ⟨k + 1, by omega, by go_num, (by refine congrArg _ (Eq.trans ?_ H1.out.symm); (try omega)), (by refine congrArg _ (Eq.trans ?_ H4.out.symm); (try rw [IntWalk.i64_in _ (by omega)]); (try omega)), hO.drew, hB_0⟩
            case measure => simp [intOf]; omega
          · have e1 : min (max (s + g - d) 0) holds = s + g - d := by omega
            have e3 : max (-(s + g - d)) 0 = 0 := by omega
            have e4 : max (s + g - d - holds) 0 = 0 := by omega
            rw [e1] at hs1 hs2
            rw [e3] at hs3
            rw [e4] at hs4
            clear e1 e3 e4
            have H1 := Lib.hid hs1
            have H2 := Lib.hid hs2
            have H3 := Lib.hid hs3
            have H4 := Lib.hid hs4
            clear hs1 hs2 hs3 hs4
            have hn1 : ¬ 0 < -(s + g - d) := by omega
            have hn2 : ¬ 0 < s + g - d - holds := by omega
            have wz1 : IntKind.i64.wrap (s + g) = s + g := IntWalk.i64_in _ (by omega)
            have wz2 : IntKind.i64.wrap (s + g - d) = s + g - d := IntWalk.i64_in _ (by omega)
            have e9 : min (max (s + g - d) 0) holds = s + g - d := by omega
            rw [e9] at v0
            clear e9
            have x1 : IntKind.i64.wrap (d - g) = d - g := IntWalk.i64_in _ (by omega)
            have x2 : IntKind.i64.wrap (d - g - s) = d - g - s := IntWalk.i64_in _ (by omega)
            have x3 : IntKind.i64.wrap (s + g - d - holds) = s + g - d - holds := IntWalk.i64_in _ (by omega)
            have j1 : (if d - g - s < 0 then (0 : Int) else d - g - s) = 0 := by split <;> omega
            have j2 : (if s + g - d - holds < 0 then (0 : Int) else s + g - d - holds) = 0 := by split <;> omega
            have j4 : IntKind.i64.wrap a = a := IntWalk.i64_in _ (by omega)
            have j5 : IntKind.i64.wrap z = z := IntWalk.i64_in _ (by omega)
            have j6 : IntKind.i64.wrap (a + 0) = a := by rw [IntWalk.i64_in _ (by omega)]; omega
            have j7 : IntKind.i64.wrap (z + 0) = z := by rw [IntWalk.i64_in _ (by omega)]; omega
            go_wp2_with fail
            refine wp_region_held_drew (S := (fun w' => w'.cell? ⟨b, off + k * 2, none⟩ = some (.int .i64 g) ∧ w'.cell? ⟨b, off + k * 2 + 1, none⟩ = some (.int .i64 d) ∧ Below w.heap.size w w')) (by kernel_rfl) ⟨c0, c1, hB.drew⟩ (fun hHeld => ?_)
            obtain ⟨hC_0, hD_0, hB_0⟩ := id hHeld
            refine wpAnyH_take (i := 0) (oi := _) (v := ?_) rfl (by kernel_rfl) (by kernel_rfl) (by kernel_rfl) (fun _ _ _ h => h) (Or.inl ⟨by rfl, ?_⟩) (by assumption) ?_
            (rotate_left); (focus (intro wv hSw; (obtain ⟨qC, qD, qB⟩ := hSw);  go_simp; (try with_reducible rfl)))
            try simp only [Act.put, List.getElem_toArray, List.getElem_cons_succ, List.getElem_cons_zero, List.setIfInBounds_toArray, List.set_cons_zero, List.set_cons_succ]
            refine wpAnyH_take (i := 1) (oi := _) (v := ?_) rfl (by kernel_rfl) (by kernel_rfl) (by kernel_rfl) (fun _ _ _ h => h) (Or.inl ⟨by rfl, ?_⟩) (by assumption) ?_
            (rotate_left); (focus (intro wv hSw; (obtain ⟨qC, qD, qB⟩ := hSw);  go_simp; (try with_reducible rfl)))
            try simp only [Act.put, List.getElem_toArray, List.getElem_cons_succ, List.getElem_cons_zero, List.setIfInBounds_toArray, List.set_cons_zero, List.set_cons_succ]
            refine wpAnyH_take (i := 2) (oi := _) (v := ?_) rfl (by kernel_rfl) (by kernel_rfl) (by kernel_rfl) (fun _ _ _ h => h) (Or.inl ⟨by rfl, ?_⟩) (by assumption) ?_
            (rotate_left); (focus (intro wv hSw; (obtain ⟨qC, qD, qB⟩ := hSw);  go_simp; (try with_reducible rfl)))
            try simp only [Act.put, List.getElem_toArray, List.getElem_cons_succ, List.getElem_cons_zero, List.setIfInBounds_toArray, List.set_cons_zero, List.set_cons_succ]
            refine wpAnyH_take (i := 3) (oi := _) (v := ?_) rfl (by kernel_rfl) (by kernel_rfl) (by kernel_rfl) (fun _ _ _ h => h) (Or.inl ⟨by rfl, ?_⟩) (by assumption) ?_
            (rotate_left); (focus (intro wv hSw; (obtain ⟨qC, qD, qB⟩ := hSw);  go_simp; (try with_reducible rfl)))
            try simp only [Act.put, List.getElem_toArray, List.getElem_cons_succ, List.getElem_cons_zero, List.setIfInBounds_toArray, List.set_cons_zero, List.set_cons_succ]
            refine wpAnyH_take (i := 4) (oi := _) (v := ?_) rfl (by kernel_rfl) (by kernel_rfl) (by kernel_rfl) (fun _ _ _ h => h) (Or.inl ⟨by rfl, ?_⟩) (by assumption) ?_
            (rotate_left); (focus (intro wv hSw; (obtain ⟨qC, qD, qB⟩ := hSw);  go_simp; (try with_reducible rfl)))
            try simp only [Act.put, List.getElem_toArray, List.getElem_cons_succ, List.getElem_cons_zero, List.setIfInBounds_toArray, List.set_cons_zero, List.set_cons_succ]
            refine wpAnyH_take (i := 5) (oi := _) (v := ?_) rfl (by kernel_rfl) (by kernel_rfl) (by kernel_rfl) (fun _ _ _ h => h) (Or.inl ⟨by rfl, ?_⟩) (by assumption) ?_
            (rotate_left); (focus (intro wv hSw; (obtain ⟨qC, qD, qB⟩ := hSw);  go_simp; (try with_reducible rfl)))
            try simp only [Act.put, List.getElem_toArray, List.getElem_cons_succ, List.getElem_cons_zero, List.setIfInBounds_toArray, List.set_cons_zero, List.set_cons_succ]
            refine wpAnyH_take (i := 6) (oi := _) (v := ?_) rfl (by kernel_rfl) (by kernel_rfl) (by kernel_rfl) (fun _ _ _ h => h) (Or.inl ⟨by rfl, ?_⟩) (by assumption) ?_
            (rotate_left); (focus (intro wv hSw; (obtain ⟨qC, qD, qB⟩ := hSw);  go_simp; (try with_reducible rfl)))
            try simp only [Act.put, List.getElem_toArray, List.getElem_cons_succ, List.getElem_cons_zero, List.setIfInBounds_toArray, List.set_cons_zero, List.set_cons_succ]
            refine wpAnyH_take (i := 7) (oi := _) (v := ?_) rfl (by kernel_rfl) (by kernel_rfl) (by kernel_rfl) (fun _ _ _ h => h) (Or.inl ⟨by rfl, ?_⟩) (by assumption) ?_
            (rotate_left); (focus (intro wv hSw; (obtain ⟨qC, qD, qB⟩ := hSw);  go_simp; (try with_reducible rfl)))
            try simp only [Act.put, List.getElem_toArray, List.getElem_cons_succ, List.getElem_cons_zero, List.setIfInBounds_toArray, List.set_cons_zero, List.set_cons_succ]
            refine wpAnyH_take (i := 8) (oi := _) (v := ?_) rfl (by kernel_rfl) (by kernel_rfl) (by kernel_rfl) (fun _ _ _ h => h) (Or.inl ⟨by rfl, ?_⟩) (by assumption) ?_
            (rotate_left); (focus (intro wv hSw; (obtain ⟨qC, qD, qB⟩ := hSw);  go_simp; (try with_reducible rfl)))
            try simp only [Act.put, List.getElem_toArray, List.getElem_cons_succ, List.getElem_cons_zero, List.setIfInBounds_toArray, List.set_cons_zero, List.set_cons_succ]
            refine wpAnyH_take (i := 9) (oi := _) (v := ?_) rfl (by kernel_rfl) (by kernel_rfl) (by kernel_rfl) (fun _ _ _ h => h) (Or.inl ⟨by rfl, ?_⟩) (by assumption) ?_
            (rotate_left); (focus (intro wv hSw; (obtain ⟨qC, qD, qB⟩ := hSw);  go_simp; (try with_reducible rfl)))
            try simp only [Act.put, List.getElem_toArray, List.getElem_cons_succ, List.getElem_cons_zero, List.setIfInBounds_toArray, List.set_cons_zero, List.set_cons_succ]
            refine wpAnyH_take (i := 10) (oi := _) (v := ?_) rfl (by kernel_rfl) (by kernel_rfl) (by kernel_rfl) (fun _ _ _ h => h) (Or.inl ⟨by rfl, ?_⟩) (by assumption) ?_
            (rotate_left); (focus (intro wv hSw; (obtain ⟨qC, qD, qB⟩ := hSw);  go_simp; (try with_reducible rfl)))
            try simp only [Act.put, List.getElem_toArray, List.getElem_cons_succ, List.getElem_cons_zero, List.setIfInBounds_toArray, List.set_cons_zero, List.set_cons_succ]
            refine wpAnyH_take (i := 11) (oi := _) (v := ?_) rfl (by kernel_rfl) (by kernel_rfl) (by kernel_rfl) (fun _ _ _ h => h) (Or.inl ⟨by rfl, ?_⟩) (by assumption) ?_
            (rotate_left); (focus (intro wv hSw; (obtain ⟨qC, qD, qB⟩ := hSw);  go_simp; (try with_reducible rfl)))
            try simp only [Act.put, List.getElem_toArray, List.getElem_cons_succ, List.getElem_cons_zero, List.setIfInBounds_toArray, List.set_cons_zero, List.set_cons_succ]
            refine wpAnyH_take (i := 12) (oi := _) (v := ?_) rfl (by kernel_rfl) (by kernel_rfl) (by kernel_rfl) (fun _ _ _ h => h) (Or.inl ⟨by rfl, ?_⟩) (by assumption) ?_
            (rotate_left); (focus (intro wv hSw; (obtain ⟨qC, qD, qB⟩ := hSw);  go_simp; (try with_reducible rfl)))
            try simp only [Act.put, List.getElem_toArray, List.getElem_cons_succ, List.getElem_cons_zero, List.setIfInBounds_toArray, List.set_cons_zero, List.set_cons_succ]
            refine wpAnyH_take (i := 13) (oi := _) (v := ?_) rfl (by kernel_rfl) (by kernel_rfl) (by kernel_rfl) (fun _ _ _ h => h) (Or.inl ⟨by rfl, ?_⟩) (by assumption) ?_
            (rotate_left); (focus (intro wv hSw; (obtain ⟨qC, qD, qB⟩ := hSw);  go_simp; (try with_reducible rfl)))
            try simp only [Act.put, List.getElem_toArray, List.getElem_cons_succ, List.getElem_cons_zero, List.setIfInBounds_toArray, List.set_cons_zero, List.set_cons_succ]
            refine wpAnyH_take (i := 14) (oi := _) (v := ?_) rfl (by kernel_rfl) (by kernel_rfl) (by kernel_rfl) (fun _ _ _ h => h) (Or.inl ⟨by rfl, ?_⟩) (by assumption) ?_
            (rotate_left); (focus (intro wv hSw; (obtain ⟨qC, qD, qB⟩ := hSw);  go_simp; (try with_reducible rfl)))
            try simp only [Act.put, List.getElem_toArray, List.getElem_cons_succ, List.getElem_cons_zero, List.setIfInBounds_toArray, List.set_cons_zero, List.set_cons_succ]
            refine wpAnyH_take (i := 15) (oi := _) (v := ?_) rfl (by kernel_rfl) (by kernel_rfl) (by kernel_rfl) (fun _ _ _ h => h) (Or.inl ⟨by rfl, ?_⟩) (by assumption) ?_
            (rotate_left); (focus (intro wv hSw; (obtain ⟨qC, qD, qB⟩ := hSw);  go_simp; (try with_reducible rfl)))
            try simp only [Act.put, List.getElem_toArray, List.getElem_cons_succ, List.getElem_cons_zero, List.setIfInBounds_toArray, List.set_cons_zero, List.set_cons_succ]
            refine wpAnyH_take (i := 16) (oi := _) (v := ?_) rfl (by kernel_rfl) (by kernel_rfl) (by kernel_rfl) (fun _ _ _ h => h) (Or.inl ⟨by rfl, ?_⟩) (by assumption) ?_
            (rotate_left); (focus (intro wv hSw; (obtain ⟨qC, qD, qB⟩ := hSw);  go_simp; (try with_reducible rfl)))
            try simp only [Act.put, List.getElem_toArray, List.getElem_cons_succ, List.getElem_cons_zero, List.setIfInBounds_toArray, List.set_cons_zero, List.set_cons_succ]
            refine wpAnyH_take (i := 17) (oi := _) (v := ?_) rfl (by kernel_rfl) (by kernel_rfl) (by kernel_rfl) (fun _ _ _ h => h) (Or.inl ⟨by rfl, ?_⟩) (by assumption) ?_
            (rotate_left); (focus (intro wv hSw; (obtain ⟨qC, qD, qB⟩ := hSw);  go_simp; (try with_reducible rfl)))
            try simp only [Act.put, List.getElem_toArray, List.getElem_cons_succ, List.getElem_cons_zero, List.setIfInBounds_toArray, List.set_cons_zero, List.set_cons_succ]
            refine wpAnyH_take (i := 18) (oi := _) (v := ?_) rfl (by kernel_rfl) (by kernel_rfl) (by kernel_rfl) (fun _ _ _ h => h) (Or.inl ⟨by rfl, ?_⟩) (by assumption) ?_
            (rotate_left); (focus (intro wv hSw; (obtain ⟨qC, qD, qB⟩ := hSw);  go_simp; (try with_reducible rfl)))
            try simp only [Act.put, List.getElem_toArray, List.getElem_cons_succ, List.getElem_cons_zero, List.setIfInBounds_toArray, List.set_cons_zero, List.set_cons_succ]
            refine wpAnyH_done (by kernel_rfl) ?_ _
            go_wp2_with fail
            go_roundw
            case rel => exact ⟨k + 1, by omega, by go_num, (by refine congrArg _ (Eq.trans ?_ H1.out.symm); (try omega)), (by refine congrArg _ (Eq.trans ?_ H4.out.symm); (try rw [IntWalk.i64_in _ (by omega)]); (try omega)), hO.drew, hB_0⟩
            case measure => simp [intOf]; omega
      · obtain rfl : k = n := by omega
        have e9 : xs.take k = xs := List.take_of_length_le (by rw [HN.out]; omega)
        rw [e9]
        clear e9
        go_wp2_with fail
        go_ret
        exact ⟨rfl, hB⟩
end Go.Proofs.Ytfgaggdiepielab
