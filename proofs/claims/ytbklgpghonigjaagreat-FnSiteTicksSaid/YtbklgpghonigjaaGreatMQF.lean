/- QF: texts joined. -/
import Derived.Test.YtbklgpghonigjaaGreatMQE
import Derived.Test.YtbklgpghonigjaaGreatMQC
import Derived.Laws.AppendOwn
namespace Go.Proofs.YtbklgpghonigjaaGreat
open Go Go.ChangeShapes Go.WideShapes Go.ChangeAt Go.RowKit
set_option linter.unusedSimpArgs false
set_option linter.unusedVariables false
set_option maxHeartbeats 4000000 in
theorem iHk_any (g d : Int) (w : World) :
    Calls Tryz.prog 141 #[.agg #[.int .i64 g, .int .i64 d]] w fun E w' => E = .returned (.bool (hrV (g, d))) ∧ Below w.heap.size w w' := by
  go_enter Tryz.func141, Tryz.ntmps141
  go_wp2_with (go_at_call 99; refine (iIn7 _ _ _ _).mono ?_; rintro E w' ⟨rfl, rfl⟩)
  all_goals go_ret
  all_goals exact ⟨ret_bool (by first | (simp_all [hrV, inV]; done) | (rw [Bool.eq_iff_iff]; simp_all [hrV, inV]; omega)), bel1 _ _⟩
theorem iHk_is {h : Int × Int} {r : Bool} (w : World) (h_ : hrV h = r) : Calls Tryz.prog 141 #[.agg #[.int .i64 h.1, .int .i64 h.2]] w fun E w' => E = .returned (.bool r) ∧ Below w.heap.size w w' := by subst h_; exact iHk_any h.1 h.2 w
set_option maxHeartbeats 4000000 in
theorem iAllHour7 (A : Option Addr) (cap : Nat) (xs : List VHour) {r : Bool} {n : Nat} (w : World) (hn : xs.length = n) (h : SRow encHour w A xs) (hl : n ≤ 2000000) (hr : xs.all hrV = r) :
    Calls Tryz.prog 140 #[.slice A n cap, .func (.func 141) #[] #[]] w fun E w' => E = .returned (.bool r) ∧ Below w.heap.size w w' := by
  subst hr
  have HN := Lib.hid hn
  clear hn
  go_enter Tryz.func140, Tryz.ntmps140
  go_wp2_with fail
  go_loopw [9] (fun v wr => ∃ k : Nat, v = .int .i64 k ∧ k ≤ n ∧ Hid ((xs.take k).all hrV = true) ∧ Below w.heap.size w wr) (fun v _ => (n - intOf v).toNat)
  case atStart => exact ⟨0, rfl, by omega, (by show _ = _; rfl), Below.refl _ _⟩
  case round =>
    obtain ⟨k, rfl, k1, HA, hB⟩ := hrel
    by_cases hlt : k < n
    · have hk : k < xs.length := by rw [HN.out]; exact hlt
      have hki : (k : Int) < (n : Int) := by omega
      obtain ⟨b, off, rfl, hb, c0, c1⟩ := rowHour (h.next hB) hk
      obtain ⟨v, hv⟩ : ∃ v, hrV xs[k] = v := ⟨_, rfl⟩
      have HV := Lib.hid hv
      clear hv
      go_wp2_with fail
      refine (iHk_is _ HV.out).mono ?_; rintro E w1 ⟨rfl, hw1⟩
      have hB1 := bel_next (hB.alloc hB.size _) hw1
      cases v
      · go_wp2_with fail
        go_ret
        exact ⟨ret_bool (al7_no hk HV.out).symm, hB1⟩
      · go_wp2_with fail
        go_roundw
        case rel => exact ⟨k + 1, by go_num, by omega, Lib.hid (al7_step hk HA.out HV.out), hB1⟩
        case measure => simp [intOf]; omega
    · have hki : ¬ (k : Int) < (n : Int) := by omega
      go_wp2_with fail
      go_ret
      exact ⟨ret_bool (al7_yes HN.out (by omega) HA.out).symm, hB⟩
set_option maxHeartbeats 4000000 in
theorem iHv_is (A : Option Addr) (cap : Nat) (xs : List VHour) {n : Nat} {r : Bool} (w : World) (hn : xs.length = n) (h : SRow encHour w A xs) (hl : n ≤ 2000000) (hr : hrB xs = r) :
    Calls Tryz.prog 118 #[.slice A n cap] w fun E w' => E = .returned (.bool r) ∧ Below w.heap.size w w' := by
  subst hr
  by_cases h6 : n ≤ 10
  · have h6i : (n : Int) ≤ 10 := by omega
    obtain ⟨v, hv⟩ : ∃ v, xs.all hrV = v := ⟨_, rfl⟩
    have e : hrB xs = v := by unfold hrB; rw [hn, hv]; simp [h6]
    have HE := Lib.hid e
    have HV := Lib.hid hv
    have HN := Lib.hid hn
    clear e hv hn
    go_enter Tryz.func118, Tryz.ntmps118
    go_wp2_with fail
    refine (iAllHour7 A cap xs _ HN.out h hl HV.out).mono ?_; rintro E w1 ⟨rfl, hw1⟩
    go_wp2
    go_ret
    exact ⟨ret_bool HE.out.symm, hw1⟩
  · have h6i : ¬ (n : Int) ≤ 10 := by omega
    have e : hrB xs = false := by unfold hrB; rw [hn]; simp [h6]
    rw [e]
    clear e hn h
    go_enter Tryz.func118, Tryz.ntmps118
    go_wp2
    go_ret
    exact ⟨ret_bool rfl, Below.refl _ _⟩
def NumsRet8 (l : List Int) (w : World) (e : Ending) (w' : World) : Prop := ∃ (A : Option Addr) (cap : Nat), e = .returned (.slice A l.length cap) ∧ SOwn encNum w' w.heap.size 3 A cap l ∧ Below w.heap.size w w'
theorem stB_false {xs : List (Int × Int)} {holds has : Int} (h : stB xs holds has = false) : hrB xs = false ∨ (hrB xs = true ∧ inV holds 0 200 = false) ∨ (hrB xs = true ∧ inV holds 0 200 = true ∧ inV has 0 holds = false) := by
  unfold stB at h
  cases h1 : hrB xs
  · exact .inl rfl
  · right
    rw [h1] at h
    cases h2 : inV holds 0 200
    · exact .inl ⟨rfl, rfl⟩
    · right; refine ⟨rfl, rfl, ?_⟩
      unfold inV at h2 ⊢; rw [h2] at h; simpa using h
theorem stB_true {xs : List (Int × Int)} {holds has : Int} (h : stB xs holds has = true) : hrB xs = true ∧ inV holds 0 200 = true ∧ inV has 0 holds = true := by
  have := stB_iff.1 h
  exact ⟨this.1, by unfold inV; simp; omega, by unfold inV; simp; omega⟩
end Go.Proofs.YtbklgpghonigjaaGreat
namespace Go.Proofs.YtbklgpghonigjaaGreat
open Go Go.ChangeShapes Go.WideShapes Go.ChangeAt Go.RowKit
set_option linter.unusedSimpArgs false
set_option linter.unusedVariables false
def DayRet (l : List Int) (a z : Int) (w : World) (e : Ending) (w' : World) : Prop := ∃ (A : Option Addr) (cap : Nat), e = .returned (.tuple #[.slice A l.length cap, .int .i64 a, .int .i64 z]) ∧ SOwn encNum w' w.heap.size 3 A cap l ∧ Below w.heap.size w w'
theorem ret_day {A : Option Addr} {n m c : Nat} {a z : Int} (h : n = m) : Ending.returned (.tuple #[.slice A n c, .int .i64 a, .int .i64 z]) = .returned (.tuple #[.slice A m c, .int .i64 a, .int .i64 z]) := by rw [h]
set_option maxRecDepth 100000 in
set_option maxHeartbeats 4000000 in
theorem iSd_any (A : Option Addr) (cap : Nat) (xs : List VHour) {n : Nat} {holds has : Int} (w : World) (hn : xs.length = n) (h : SRow encHour w A xs) (hl : n ≤ 2000000) :
    Calls Tryz.prog 71 #[.slice A n cap, .int .i64 holds, .int .i64 has] w fun E w' => DayRet (stL xs holds has) (laI xs holds has) (loI xs holds has) w E w' := by
  obtain ⟨i0, hi0, hz0, hz1, hz2⟩ := info_parts infoNum
  have HI := Lib.hid (And.intro hi0 (And.intro hz0 (And.intro hz1 hz2)))
  clear hi0 hz0 hz1 hz2
  cases hb9 : stB xs holds has
  · have e1 : stL xs holds has = [] := by unfold stL; rw [hb9]; rfl
    have e2 : laI xs holds has = -1 := by unfold laI; rw [hb9]; rfl
    have e3 : loI xs holds has = -1 := by unfold loI; rw [hb9]; rfl
    rw [e1, e2, e3]
    clear e1 e2 e3
    rcases stB_false hb9 with hv | ⟨hv, h2⟩ | ⟨hv, h2, h3⟩
    · have HV := Lib.hid hv
      clear hv hb9
      have HN := Lib.hid hn
      clear hn
      go_enter Tryz.func71, Tryz.ntmps71
      go_wp2_with fail
      refine (iHv_is A cap xs _ HN.out h hl HV.out).mono ?_; rintro E w1 ⟨rfl, hw1⟩
      go_wp2
      go_ret3
      exact ⟨none, 0, rfl, SOwn.nil _ _ _, hw1⟩
    · have HV := Lib.hid hv
      have H2_ := Lib.hid h2
      clear hv h2 hb9
      have HN := Lib.hid hn
      clear hn
      go_enter Tryz.func71, Tryz.ntmps71
      go_wp2_with fail
      refine (iHv_is A cap xs _ HN.out h hl HV.out).mono ?_; rintro E w1 ⟨rfl, hw1⟩
      go_wp2_with fail
      refine (iIn7_is _ H2_.out).mono ?_; rintro E w' ⟨rfl, rfl⟩
      go_wp2
      go_ret3
      exact ⟨none, 0, rfl, SOwn.nil _ _ _, hw1⟩
    · have HV := Lib.hid hv
      have H2_ := Lib.hid h2
      have H3_ := Lib.hid h3
      clear hv h2 h3 hb9
      have HN := Lib.hid hn
      clear hn
      go_enter Tryz.func71, Tryz.ntmps71
      go_wp2_with fail
      refine (iHv_is A cap xs _ HN.out h hl HV.out).mono ?_; rintro E w1 ⟨rfl, hw1⟩
      go_wp2_with fail
      refine (iIn7_is _ H2_.out).mono ?_; rintro E w' ⟨rfl, rfl⟩
      go_wp2_with fail
      refine (iIn7_is _ H3_.out).mono ?_; rintro E w' ⟨rfl, rfl⟩
      go_wp2
      go_ret3
      exact ⟨none, 0, rfl, SOwn.nil _ _ _, hw1⟩
  · have e1 : stL xs holds has = stR holds has xs := by unfold stL; rw [hb9]; rfl
    have e2 : laI xs holds has = laR holds has xs := by unfold laI; rw [hb9]; rfl
    have e3 : loI xs holds has = loR holds has xs := by unfold loI; rw [hb9]; rfl
    rw [e1, e2, e3]
    clear e1 e2 e3
    obtain ⟨hv, h00, h01, h02, h03⟩ := stB_iff.1 hb9
    obtain ⟨_, hi2, hi3⟩ := stB_true hb9
    have hn10 : n ≤ 10 := by have := (hrB_iff.1 hv).1; omega
    have HV := Lib.hid hv
    have H2_ := Lib.hid hi2
    have H3_ := Lib.hid hi3
    have HN := Lib.hid hn
    clear hv hi2 hi3 hn
    clear hb9
    go_enter Tryz.func71, Tryz.ntmps71
    go_wp2_with fail
    refine (iHv_is A cap xs _ HN.out h hl HV.out).mono ?_; rintro E w1 ⟨rfl, hw1⟩
    go_wp2_with fail
    refine (iIn7_is _ H2_.out).mono ?_; rintro E w' ⟨rfl, rfl⟩
    go_wp2_with fail
    refine (iIn7_is _ H3_.out).mono ?_; rintro E w' ⟨rfl, rfl⟩
    go_wp2_with fail
    go_loopw [2, 9, 10, 11, 31] (fun sv rv av zv i wr => ∃ (k m cv : Nat) (V : Option Addr) (us : List Int), k ≤ n ∧ m = k ∧ i = .int .i64 k ∧ rv = .slice V m cv ∧ sv = .int .i64 (stE holds has (xs.take k)) ∧ av = .int .i64 (laR holds has (xs.take k)) ∧ zv = .int .i64 (loR holds has (xs.take k)) ∧ Hid (us.length = m) ∧ Hid (us = stR holds has (xs.take k)) ∧ SOwn encNum wr w.heap.size 3 V cv us ∧ Below w.heap.size w wr) (fun _ _ _ _ i _ => (n - intOf i).toNat)
    case atStart => exact ⟨0, 0, 0, none, [], by omega, rfl, rfl, rfl, rfl, rfl, rfl, (by show _ = _; rfl), (by show _ = _; rfl), SOwn.nil _ _ _, hw1⟩
    case round =>
      obtain ⟨k, m, cv, V, us, k1, mk, rfl, rfl, rfl, rfl, rfl, HM, HU, hO, hB⟩ := hrel
      have MK := Lib.hid mk
      have hm10 : m ≤ 10 := by omega
      by_cases hlt : k < n
      · clear mk
        have hk : k < xs.length := by rw [HN.out]; exact hlt
        have hki : (k : Int) < (n : Int) := by omega
        obtain ⟨b, off, rfl, hb, c0, c1⟩ := rowHour (h.next hB) hk
        obtain ⟨hg0, hg1, hd0, hd1⟩ := hrB_at HV.out hk
        have hs1 := stE_step (holds := holds) (has := has) hk
        have hs2 := stR_step (holds := holds) (has := has) hk
        have hs3 := laR_step (holds := holds) (has := has) hk
        have hs4 := loR_step (holds := holds) (has := has) hk
        obtain ⟨hb0, hb1⟩ := stE_bd h00 (xs.take k) has h02 h03
        have hla := laR_bd h00 (xs.take k) has h02 (fun x hx => (hrB_iff.1 HV.out).2 x (List.mem_of_mem_take hx))
        have hlo := loR_bd h00 (xs.take k) has h03 (fun x hx => (hrB_iff.1 HV.out).2 x (List.mem_of_mem_take hx))
        have hla0 := laR_nn holds (xs.take k) has
        have hlo0 := loR_nn holds (xs.take k) has
        have hlt9 : (xs.take k).length ≤ 10 := by rw [List.length_take]; omega
        have hk10 : k < 10 := by omega
        unfold stS at hs1 hs2
        unfold laS at hs3
        unfold loS at hs4
        generalize xs[k].1 = g at c0 hg0 hg1 hs1 hs2 hs3 hs4
        generalize xs[k].2 = d at c1 hd0 hd1 hs1 hs2 hs3 hs4
        generalize stE holds has (xs.take k) = s at hb0 hb1 hs1 hs2 hs3 hs4 ⊢
        generalize laR holds has (xs.take k) = a at hs3 hla hla0 ⊢
        generalize loR holds has (xs.take k) = z at hs4 hlo hlo0 ⊢
        by_cases hx0 : s + g - d < 0
        · have e1 : min (max (s + g - d) 0) holds = 0 := by omega
          have e3 : max (-(s + g - d)) 0 = -(s + g - d) := by omega
          have e4 : max (s + g - d - holds) 0 = 0 := by omega
          rw [e1] at hs1 hs2
          rw [e3] at hs3
          rw [e4] at hs4
          clear e1 e3 e4
          have H1 := Lib.hid hs1
          have H2 := Lib.hid hs2
          have H3 := Lib.hid hs3
          have H4 := Lib.hid hs4
          clear hs1 hs2 hs3 hs4
          have hn1 : 0 < -(s + g - d) := by omega
          have hn2 : s + g - d - holds < 0 := by omega
          have hn3 : ¬ holds < 0 := by omega
          have wz1 : IntKind.i64.wrap (s + g) = s + g := IntWalk.i64_in _ (by omega)
          have wz2 : IntKind.i64.wrap (s + g - d) = s + g - d := IntWalk.i64_in _ (by omega)
          have i1 : (if s + g - d < 0 then (0 : Int) else s + g - d) = 0 := if_pos hx0
          have i2 : (if holds < 0 then holds else (0 : Int)) = 0 := if_neg hn3
          have hcp := hB.size
          have hOb := hO.alloc (.cells #[.int .i64 g, .int .i64 d] 54)
          have hBb := hB.alloc hB.size (.cells #[.int .i64 g, .int .i64 d] 54)
          have hOa := hOb.alloc (.cells (encNum.enc (0)).toArray 3)
          go_wp2_with (at_builtin; refine wpList_append_lies _ rfl (.tmp 57) (.tmp 59) _ rfl w.heap.size 3 i0 _ 1 8 Tryz.underlying51 HI.out.1 HI.out.2.1 HI.out.2.2.1 HI.out.2.2.2 rfl (by omega) (.slice V m cv) m (encNum.flat us) rfl (by unfold SOwn at hOa; rw [HM.out] at hOa; exact hOa) ⟨wr.heap.size + 1, 0, none⟩ 1 1 (encNum.enc (0)) rfl rfl (new_enc1 (E := encNum) wr (.cells #[.int .i64 g, .int .i64 d] 54) (0) _) (encNum.one _) (by omega) (by simp only [maxLen]; omega) (by omega) (by simp; omega) _ rfl ?_; intro g5 cap5 w5 hown5 hgr5 hat5 hlt5)
          have hB5 := SOwn.below_grown (n := m) hOa (hBb.alloc hBb.size _) hgr5
          have hsn := SOwn.snoc (E := encNum) (xs := us) (x := 0) (by rw [HM.out]; exact hown5)
          go_wp2_with fail
          go_roundw
          case rel =>
            exact ⟨k + 1, m + 1, cap5, some ⟨g5, 0, none⟩, us ++ [0], by omega, by rw [MK.out], by go_num, rfl, (by refine congrArg _ (Eq.trans ?_ H1.out.symm); (try rw [IntWalk.i64_in _ (by omega)]); (try omega)), (by refine congrArg _ (Eq.trans ?_ H3.out.symm); (try rw [IntWalk.i64_in _ (by omega)]); (try omega)), (by refine congrArg _ (Eq.trans ?_ H4.out.symm); (try rw [IntWalk.i64_in _ (by omega)]); (try omega)), Lib.hid (by rw [List.length_append, HM.out]; rfl), Lib.hid (by rw [H2.out, HU.out]), hsn, hB5⟩
          case measure => simp [intOf]; omega
        · by_cases hx1 : holds < s + g - d
          · have e1 : min (max (s + g - d) 0) holds = holds := by omega
            have e3 : max (-(s + g - d)) 0 = 0 := by omega
            have e4 : max (s + g - d - holds) 0 = s + g - d - holds := by omega
            rw [e1] at hs1 hs2
            rw [e3] at hs3
            rw [e4] at hs4
            clear e1 e3 e4
            have H1 := Lib.hid hs1
            have H2 := Lib.hid hs2
            have H3 := Lib.hid hs3
            have H4 := Lib.hid hs4
            clear hs1 hs2 hs3 hs4
            have hn1 : -(s + g - d) < 0 := by omega
            have hn2 : 0 < s + g - d - holds := by omega
            have wz1 : IntKind.i64.wrap (s + g) = s + g := IntWalk.i64_in _ (by omega)
            have wz2 : IntKind.i64.wrap (s + g - d) = s + g - d := IntWalk.i64_in _ (by omega)
            have i1 : (if s + g - d < 0 then (0 : Int) else s + g - d) = s + g - d := if_neg hx0
            have i2 : (if holds < s + g - d then holds else s + g - d) = holds := if_pos hx1
            have hcp := hB.size
            have hOb := hO.alloc (.cells #[.int .i64 g, .int .i64 d] 54)
            have hBb := hB.alloc hB.size (.cells #[.int .i64 g, .int .i64 d] 54)
            have hOa := hOb.alloc (.cells (encNum.enc (holds)).toArray 3)
            go_wp2_with (at_builtin; refine wpList_append_lies _ rfl (.tmp 57) (.tmp 59) _ rfl w.heap.size 3 i0 _ 1 8 Tryz.underlying51 HI.out.1 HI.out.2.1 HI.out.2.2.1 HI.out.2.2.2 rfl (by omega) (.slice V m cv) m (encNum.flat us) rfl (by unfold SOwn at hOa; rw [HM.out] at hOa; exact hOa) ⟨wr.heap.size + 1, 0, none⟩ 1 1 (encNum.enc (holds)) rfl rfl (new_enc1 (E := encNum) wr (.cells #[.int .i64 g, .int .i64 d] 54) (holds) _) (encNum.one _) (by omega) (by simp only [maxLen]; omega) (by omega) (by simp; omega) _ rfl ?_; intro g5 cap5 w5 hown5 hgr5 hat5 hlt5)
            have hB5 := SOwn.below_grown (n := m) hOa (hBb.alloc hBb.size _) hgr5
            have hsn := SOwn.snoc (E := encNum) (xs := us) (x := holds) (by rw [HM.out]; exact hown5)
            go_wp2_with fail
            go_roundw
            case rel =>
              exact ⟨k + 1, m + 1, cap5, some ⟨g5, 0, none⟩, us ++ [holds], by omega, by rw [MK.out], by go_num, rfl, (by refine congrArg _ (Eq.trans ?_ H1.out.symm); (try rw [IntWalk.i64_in _ (by omega)]); (try omega)), (by refine congrArg _ (Eq.trans ?_ H3.out.symm); (try rw [IntWalk.i64_in _ (by omega)]); (try omega)), (by refine congrArg _ (Eq.trans ?_ H4.out.symm); (try rw [IntWalk.i64_in _ (by omega)]); (try omega)), Lib.hid (by rw [List.length_append, HM.out]; rfl), Lib.hid (by rw [H2.out, HU.out]), hsn, hB5⟩
            case measure => simp [intOf]; omega
          · have e1 : min (max (s + g - d) 0) holds = s + g - d := by omega
            have e3 : max (-(s + g - d)) 0 = 0 := by omega
            have e4 : max (s + g - d - holds) 0 = 0 := by omega
            rw [e1] at hs1 hs2
            rw [e3] at hs3
            rw [e4] at hs4
            clear e1 e3 e4
            have H1 := Lib.hid hs1
            have H2 := Lib.hid hs2
            have H3 := Lib.hid hs3
            have H4 := Lib.hid hs4
            clear hs1 hs2 hs3 hs4
            have hn1 : ¬ 0 < -(s + g - d) := by omega
            have hn2 : ¬ 0 < s + g - d - holds := by omega
            have wz1 : IntKind.i64.wrap (s + g) = s + g := IntWalk.i64_in _ (by omega)
            have wz2 : IntKind.i64.wrap (s + g - d) = s + g - d := IntWalk.i64_in _ (by omega)
            have i1 : (if s + g - d < 0 then (0 : Int) else s + g - d) = s + g - d := if_neg hx0
            have i2 : (if holds < s + g - d then holds else s + g - d) = s + g - d := if_neg hx1
            have hcp := hB.size
            have hOb := hO.alloc (.cells #[.int .i64 g, .int .i64 d] 54)
            have hBb := hB.alloc hB.size (.cells #[.int .i64 g, .int .i64 d] 54)
            have hOa := hOb.alloc (.cells (encNum.enc (s + g - d)).toArray 3)
            go_wp2_with (at_builtin; refine wpList_append_lies _ rfl (.tmp 57) (.tmp 59) _ rfl w.heap.size 3 i0 _ 1 8 Tryz.underlying51 HI.out.1 HI.out.2.1 HI.out.2.2.1 HI.out.2.2.2 rfl (by omega) (.slice V m cv) m (encNum.flat us) rfl (by unfold SOwn at hOa; rw [HM.out] at hOa; exact hOa) ⟨wr.heap.size + 1, 0, none⟩ 1 1 (encNum.enc (s + g - d)) rfl rfl (new_enc1 (E := encNum) wr (.cells #[.int .i64 g, .int .i64 d] 54) (s + g - d) _) (encNum.one _) (by omega) (by simp only [maxLen]; omega) (by omega) (by simp; omega) _ rfl ?_; intro g5 cap5 w5 hown5 hgr5 hat5 hlt5)
            have hB5 := SOwn.below_grown (n := m) hOa (hBb.alloc hBb.size _) hgr5
            have hsn := SOwn.snoc (E := encNum) (xs := us) (x := s + g - d) (by rw [HM.out]; exact hown5)
            go_wp2_with fail
            go_roundw
            case rel =>
              exact ⟨k + 1, m + 1, cap5, some ⟨g5, 0, none⟩, us ++ [s + g - d], by omega, by rw [MK.out], by go_num, rfl, (by refine congrArg _ (Eq.trans ?_ H1.out.symm); (try rw [IntWalk.i64_in _ (by omega)]); (try omega)), (by refine congrArg _ (Eq.trans ?_ H3.out.symm); (try rw [IntWalk.i64_in _ (by omega)]); (try omega)), (by refine congrArg _ (Eq.trans ?_ H4.out.symm); (try rw [IntWalk.i64_in _ (by omega)]); (try omega)), Lib.hid (by rw [List.length_append, HM.out]; rfl), Lib.hid (by rw [H2.out, HU.out]), hsn, hB5⟩
            case measure => simp [intOf]; omega
      · obtain rfl : k = n := by omega
        have e9 : xs.take k = xs := List.take_of_length_le (by rw [HN.out]; omega)
        have HE9 := Lib.hid e9
        clear e9 mk
        go_wp2_with fail
        go_ret3
        exact ⟨V, cv, by rw [HE9.out]; exact ret_day (by rw [stR_len, HN.out, MK.out]), by rw [← HE9.out, ← HU.out]; exact hO, hB⟩
set_option maxHeartbeats 4000000 in
theorem iSr_is (A : Option Addr) (cap : Nat) (xs : List VHour) {n : Nat} {holds has : Int} {l : List Int} (w : World) (hn : xs.length = n) (h : SRow encHour w A xs) (hl : n ≤ 2000000) (hr : stL xs holds has = l) :
    Calls Tryz.prog 26 #[.slice A n cap, .int .i64 holds, .int .i64 has] w fun E w' => NumsRet8 l w E w' := by
  subst hr
  go_enter Tryz.func26, Tryz.ntmps26
  go_wp2_with fail
  refine (iSd_any A cap xs _ hn h hl).mono ?_; rintro E w1 ⟨V, cv, rfl, hO, hw1⟩
  go_wp2
  go_ret
  exact ⟨V, cv, rfl, hO, hw1⟩
end Go.Proofs.YtbklgpghonigjaaGreat
