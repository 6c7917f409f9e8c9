/- Contracts of chapter 8: rooms. -/
import Derived.Test.YtpmbjdfecbmgoabBa
import Derived.Test.YtpmbjdfecbmgoabGBool
namespace Go.Proofs.Ytpmbjdfecbmgoab
open Go Go.ChangeShapes Go.WideShapes Go.ChangeAt Go.RowKit
set_option linter.unusedSimpArgs false
set_option linter.unusedVariables false

theorem tdv_bd {d k : Int} (hk : 2 ≤ k) (h0 : -500 ≤ d) (h1 : d ≤ 500) : -500 ≤ d.tdiv k ∧ d.tdiv k ≤ 500 := by
  rcases Int.le_total 0 d with h | h
  · have := (tdv_near hk).1 h; omega
  · have := (tdv_near hk).2 h; omega
theorem rsR_eq {wa o l k q z : Int} (hq : (o - wa).tdiv k = q) (hz : l / 10 = z) : rsR wa o l k = min (wa + q + z) 500 := by unfold rsR; rw [hq, hz]
set_option maxHeartbeats 4000000 in
theorem iRv_any (wa o k : Int) (w : World) :
    Calls Try.prog 32 #[.int .i64 wa, .int .i64 o, .int .i64 k] w fun E w' => E = .returned (.bool (rmB wa o k)) ∧ w = w' := by
  go_enter Try.func32, Try.ntmps32
  go_wp2_with (go_at_call 46; refine (iIn7 _ _ _ _).mono ?_; rintro E w' ⟨rfl, rfl⟩)
  all_goals go_ret
  all_goals exact ⟨ret_bool (by first | (simp_all [rmB, inV]; done) | (rw [Bool.eq_iff_iff]; simp_all [rmB, inV]; omega)), rfl⟩
theorem iRv_is {wa o k : Int} {r : Bool} (w : World) (h_ : rmB wa o k = r) : Calls Try.prog 32 #[.int .i64 wa, .int .i64 o, .int .i64 k] w fun E w' => E = .returned (.bool r) ∧ w = w' := by subst h_; exact iRv_any wa o k w
set_option maxHeartbeats 4000000 in
theorem iRs_is {wa o l k r : Int} (w : World) (hr : rqI wa o l k = r) :
    Calls Try.prog 10 #[.int .i64 wa, .int .i64 o, .int .i64 l, .int .i64 k] w fun E w' => E = .returned (.int .i64 r) ∧ w = w' := by
  subst hr
  cases hm : rmB wa o k
  · rw [rqI_no1 hm]
    have HM := Lib.hid hm
    clear hm
    go_enter Try.func10, Try.ntmps10
    go_wp2_with fail
    refine (iRv_is _ HM.out).mono ?_; rintro E w' ⟨rfl, rfl⟩
    go_wp2
    go_ret
    exact ⟨rfl, rfl⟩
  · cases hl : inV l 0 100
    · rw [rqI_no2 hl]
      have HM := Lib.hid hm
      have HL : Hid (ltV l = false) := hl
      clear hm hl
      go_enter Try.func10, Try.ntmps10
      go_wp2_with fail
      refine (iRv_is _ HM.out).mono ?_; rintro E w' ⟨rfl, rfl⟩
      go_wp2_with fail
      refine (iLv8_is _ HL.out).mono ?_; rintro E w' ⟨rfl, rfl⟩
      go_wp2
      go_ret
      exact ⟨rfl, rfl⟩
    · obtain ⟨⟨wa0, wa1⟩, ⟨o0, o1⟩, ⟨k0, k1⟩⟩ := rmB_iff.1 hm
      have hl2 : 0 ≤ l ∧ l ≤ 100 := by unfold inV at hl; simpa using hl
      obtain ⟨l0, l1⟩ := hl2
      obtain ⟨q, hq⟩ : ∃ q, (o - wa).tdiv k = q := ⟨_, rfl⟩
      obtain ⟨z, hz⟩ : ∃ z, l / 10 = z := ⟨_, rfl⟩
      have hqb := tdv_bd (d := o - wa) k0 (by omega) (by omega)
      rw [hq] at hqb
      obtain ⟨q0, q1⟩ := hqb
      have zb : 0 ≤ z ∧ z ≤ 10 := by omega
      obtain ⟨z0, z1⟩ := zb
      rw [rqI_yes hm hl, rsR_eq hq hz]
      have hz2 : l.tdiv 10 = z := by rw [Int.tdiv_eq_ediv_of_nonneg l0]; exact hz
      have hk0 : ¬ k = 0 := by omega
      have HM := Lib.hid hm
      have HL : Hid (ltV l = true) := hl
      clear hm hl
      by_cases hm5 : 500 < wa + q + z
      · go_enter Try.func10, Try.ntmps10
        go_wp2_with fail
        refine (iRv_is _ HM.out).mono ?_; rintro E w' ⟨rfl, rfl⟩
        go_wp2_with fail
        refine (iLv8_is _ HL.out).mono ?_; rintro E w' ⟨rfl, rfl⟩
        go_wp2
        go_ret
        exact ⟨ret_int (by omega), rfl⟩
      · go_enter Try.func10, Try.ntmps10
        go_wp2_with fail
        refine (iRv_is _ HM.out).mono ?_; rintro E w' ⟨rfl, rfl⟩
        go_wp2_with fail
        refine (iLv8_is _ HL.out).mono ?_; rintro E w' ⟨rfl, rfl⟩
        go_wp2
        go_ret
        exact ⟨ret_int (by omega), rfl⟩
set_option maxHeartbeats 4000000 in
theorem sRs_is {wa o l k r : Int} (w : World) (hr : rqI wa o l k = r) :
    Calls Try.prog 11 #[.int .i64 wa, .int .i64 o, .int .i64 l, .int .i64 k] w fun E w' => E = .returned (.int .i64 r) ∧ w = w' := by
  subst hr
  cases hw : inV wa 0 500
  · rw [rqI_no1 (by unfold rmB; rw [hw]; rfl)]
    have HW := Lib.hid hw
    clear hw
    go_enter Try.func11, Try.ntmps11
    go_wp2_with fail
    refine (sIn7_is _ HW.out).mono ?_; rintro E w' ⟨rfl, rfl⟩
    go_wp2
    go_ret
    exact ⟨rfl, rfl⟩
  · cases ho : inV o 0 500
    · rw [rqI_no1 (by unfold rmB; rw [ho]; simp)]
      have HW := Lib.hid hw
      have HO := Lib.hid ho
      clear hw ho
      go_enter Try.func11, Try.ntmps11
      go_wp2_with fail
      refine (sIn7_is _ HW.out).mono ?_; rintro E w' ⟨rfl, rfl⟩
      go_wp2_with fail
      refine (sIn7_is _ HO.out).mono ?_; rintro E w' ⟨rfl, rfl⟩
      go_wp2
      go_ret
      exact ⟨rfl, rfl⟩
    · cases hl : inV l 0 100
      · rw [rqI_no2 hl]
        have HW := Lib.hid hw
        have HO := Lib.hid ho
        have HL := Lib.hid hl
        clear hw ho hl
        go_enter Try.func11, Try.ntmps11
        go_wp2_with fail
        refine (sIn7_is _ HW.out).mono ?_; rintro E w' ⟨rfl, rfl⟩
        go_wp2_with fail
        refine (sIn7_is _ HO.out).mono ?_; rintro E w' ⟨rfl, rfl⟩
        go_wp2_with fail
        refine (sIn7_is _ HL.out).mono ?_; rintro E w' ⟨rfl, rfl⟩
        go_wp2
        go_ret
        exact ⟨rfl, rfl⟩
      · cases hk : inV k 2 99
        · rw [rqI_no1 (by unfold rmB; rw [hk]; simp)]
          have HW := Lib.hid hw
          have HO := Lib.hid ho
          have HL := Lib.hid hl
          have HK := Lib.hid hk
          clear hw ho hl hk
          go_enter Try.func11, Try.ntmps11
          go_wp2_with fail
          refine (sIn7_is _ HW.out).mono ?_; rintro E w' ⟨rfl, rfl⟩
          go_wp2_with fail
          refine (sIn7_is _ HO.out).mono ?_; rintro E w' ⟨rfl, rfl⟩
          go_wp2_with fail
          refine (sIn7_is _ HL.out).mono ?_; rintro E w' ⟨rfl, rfl⟩
          go_wp2_with fail
          refine (sIn7_is _ HK.out).mono ?_; rintro E w' ⟨rfl, rfl⟩
          go_wp2
          go_ret
          exact ⟨rfl, rfl⟩
        · have hm : rmB wa o k = true := by unfold rmB; rw [hw, ho, hk]; rfl
          obtain ⟨⟨wa0, wa1⟩, ⟨o0, o1⟩, ⟨k0, k1⟩⟩ := rmB_iff.1 hm
          have hl2 : 0 ≤ l ∧ l ≤ 100 := by unfold inV at hl; simpa using hl
          obtain ⟨l0, l1⟩ := hl2
          obtain ⟨q, hq⟩ : ∃ q, (o - wa).tdiv k = q := ⟨_, rfl⟩
          obtain ⟨z, hz⟩ : ∃ z, l / 10 = z := ⟨_, rfl⟩
          have hqb := tdv_bd (d := o - wa) k0 (by omega) (by omega)
          rw [hq] at hqb
          obtain ⟨q0, q1⟩ := hqb
          have zb : 0 ≤ z ∧ z ≤ 10 := by omega
          obtain ⟨z0, z1⟩ := zb
          rw [rqI_yes hm hl, rsR_eq hq hz]
          have hz2 : l.tdiv 10 = z := by rw [Int.tdiv_eq_ediv_of_nonneg l0]; exact hz
          have hk0 : ¬ k = 0 := by omega
          have HW := Lib.hid hw
          have HO := Lib.hid ho
          have HL := Lib.hid hl
          have HK := Lib.hid hk
          clear hw ho hl hk hm
          by_cases hm5 : 500 < wa + q + z
          · go_enter Try.func11, Try.ntmps11
            go_wp2_with fail
            refine (sIn7_is _ HW.out).mono ?_; rintro E w' ⟨rfl, rfl⟩
            go_wp2_with fail
            refine (sIn7_is _ HO.out).mono ?_; rintro E w' ⟨rfl, rfl⟩
            go_wp2_with fail
            refine (sIn7_is _ HL.out).mono ?_; rintro E w' ⟨rfl, rfl⟩
            go_wp2_with fail
            refine (sIn7_is _ HK.out).mono ?_; rintro E w' ⟨rfl, rfl⟩
            go_wp2
            go_ret
            exact ⟨ret_int (by omega), rfl⟩
          · go_enter Try.func11, Try.ntmps11
            go_wp2_with fail
            refine (sIn7_is _ HW.out).mono ?_; rintro E w' ⟨rfl, rfl⟩
            go_wp2_with fail
            refine (sIn7_is _ HO.out).mono ?_; rintro E w' ⟨rfl, rfl⟩
            go_wp2_with fail
            refine (sIn7_is _ HL.out).mono ?_; rintro E w' ⟨rfl, rfl⟩
            go_wp2_with fail
            refine (sIn7_is _ HK.out).mono ?_; rintro E w' ⟨rfl, rfl⟩
            go_wp2
            go_ret
            exact ⟨ret_int (by omega), rfl⟩
set_option maxRecDepth 100000 in
set_option maxHeartbeats 4000000 in
theorem iRr_is (A A2 : Option Addr) (cap cap2 : Nat) (xs : List Int) (bs : List Bool) {n m : Nat} {wa o k r : Int} (w : World) (hn : xs.length = n) (hm : bs.length = m) (h : SRow encNum w A xs) (h2 : SRow encBool w A2 bs) (hl : n ≤ 2000000) (hl2 : m ≤ 2000000) (hr : rrI wa o k xs bs = r) :
    Calls Try.prog 14 #[.int .i64 wa, .int .i64 o, .int .i64 k, .slice A n cap, .slice A2 m cap2] w fun E w' => E = .returned (.int .i64 r) ∧ Below w.heap.size w w' := by
  have HN := Lib.hid hn
  have HM9 := Lib.hid hm
  clear hn hm
  subst hr
  cases hb9 : rrB wa o k xs bs
  · rw [rrI_no hb9]
    rcases rrB_false hb9 with hv | ⟨hv, hv2⟩ | ⟨hv, hv2, hv3⟩
    · have HM := Lib.hid hv
      clear hv
      clear hb9
      go_enter Try.func14, Try.ntmps14
      go_wp2_with fail
      refine (iRv_is _ HM.out).mono ?_; rintro E w' ⟨rfl, rfl⟩
      go_wp2
      go_ret
      exact ⟨rfl, Below.refl _ _⟩
    · have HM := Lib.hid hv
      clear hv
      have HL := Lib.hid hv2
      clear hb9 hv2
      go_enter Try.func14, Try.ntmps14
      go_wp2_with fail
      refine (iRv_is _ HM.out).mono ?_; rintro E w' ⟨rfl, rfl⟩
      go_wp2_with fail
      refine (iLt_is A cap xs _ HN.out h hl HL.out).mono ?_; rintro E w1 ⟨rfl, hw1⟩
      go_wp2
      go_ret
      exact ⟨rfl, hw1⟩
    · have HM := Lib.hid hv
      clear hv
      have HL := Lib.hid hv2
      rw [HN.out, HM9.out] at hv3
      have hmn : ¬ (m : Int) = (n : Int) := by omega
      have hmb : ((m : Int) != (n : Int)) = true := by rw [bne_iff_ne]; exact hmn
      clear hb9 hv2 hv3
      go_enter Try.func14, Try.ntmps14
      go_wp2_with fail
      refine (iRv_is _ HM.out).mono ?_; rintro E w' ⟨rfl, rfl⟩
      go_wp2_with fail
      refine (iLt_is A cap xs _ HN.out h hl HL.out).mono ?_; rintro E w1 ⟨rfl, hw1⟩
      go_wp2
      go_ret
      exact ⟨rfl, hw1⟩
  · rw [rrI_yes hb9]
    obtain ⟨hv, hv2, hv3⟩ := rrB_iff.1 hb9
    rw [HN.out, HM9.out] at hv3
    subst hv3
    have HOK := Lib.hid hv
    have hx9 := (ltB_iff.1 hv2).2
    have HX9 := Lib.hid hx9
    have hn60 : m ≤ 60 := by have := (ltB_iff.1 hv2).1; rw [HN.out] at this; exact this
    clear hx9
    have HM := Lib.hid hv
    clear hv
    have HL := Lib.hid hv2
    clear hb9 hv2
    go_enter Try.func14, Try.ntmps14
    go_wp2_with fail
    refine (iRv_is _ HM.out).mono ?_; rintro E w' ⟨rfl, rfl⟩
    go_wp2_with fail
    refine (iLt_is A cap xs _ HN.out h hl HL.out).mono ?_; rintro E w1 ⟨rfl, hw1⟩
    go_wp2_with fail
    go_loopw [0, 32] (fun av iv wr => ∃ (j : Nat) (a : Int), iv = .int .i64 j ∧ j ≤ m ∧ av = .int .i64 a ∧ Hid (rrR o k wa ((xs.zip bs).take j) = a) ∧ Below w.heap.size w wr) (fun _ iv _ => (m - intOf iv).toNat)
    case atStart => exact ⟨0, wa, rfl, by omega, rfl, (by show _ = _; rfl), hw1⟩
    case round =>
      obtain ⟨j, a, rfl, j1, rfl, HA, hB⟩ := hrel
      by_cases hlt : j < m
      · have hj : j < xs.length := by rw [HN.out]; exact hlt
        have hj2 : j < bs.length := by rw [HM9.out]; exact hlt
        have hji : (j : Int) < (m : Int) := by omega
        obtain ⟨b, off, rfl, hb, c0⟩ := rowNum (h.next hB) hj
        obtain ⟨b2, off2, rfl, hb2, d0⟩ := rowBool (h2.next hB) hj2
        have hs := rrR_step hj hj2 wa o k
        rw [HA.out] at hs
        have hx0 := HX9.out xs[j] (List.getElem_mem hj)
        have hok : rmB a o k = true := by rw [← HA.out]; exact rrR_ok o k _ wa HOK.out (zip_lt HX9.out j)
        generalize xs[j] = x at c0 hs hx0
        generalize bs[j] = u at d0 hs
        obtain ⟨x0, x1⟩ := hx0
        clear HA
        cases u
        · have hs2 : rrR o k wa ((xs.zip bs).take (j + 1)) = rsR a o x k := hs
          have hin : inV x 0 100 = true := by unfold inV; simp; omega
          obtain ⟨a2, ha2⟩ : ∃ a2, rsR a o x k = a2 := ⟨_, rfl⟩
          rw [ha2] at hs2
          have HS := Lib.hid hs2
          have HR : Hid (rqI a o x k = a2) := Lib.hid ((rqI_yes hok hin).trans ha2)
          clear hs hs2 hin ha2 hok
          go_wp2_with fail
          refine (iRs_is _ HR.out).mono ?_; rintro E w' ⟨rfl, rfl⟩
          go_wp2_with fail
          go_roundw
          case rel => exact ⟨j + 1, a2, by go_num, by omega, rfl, HS, hB⟩
          case measure => simp [intOf]; omega
        · have hs2 : rrR o k wa ((xs.zip bs).take (j + 1)) = rsR a o 0 k := hs
          have hin : inV 0 0 100 = true := rfl
          obtain ⟨a2, ha2⟩ : ∃ a2, rsR a o 0 k = a2 := ⟨_, rfl⟩
          rw [ha2] at hs2
          have HS := Lib.hid hs2
          have HR : Hid (rqI a o 0 k = a2) := Lib.hid ((rqI_yes hok hin).trans ha2)
          clear hs hs2 hin ha2 hok
          go_wp2_with fail
          refine (iRs_is _ HR.out).mono ?_; rintro E w' ⟨rfl, rfl⟩
          go_wp2_with fail
          go_roundw
          case rel => exact ⟨j + 1, a2, by go_num, by omega, rfl, HS, hB⟩
          case measure => simp [intOf]; omega
      · have hji : ¬ (j : Int) < (m : Int) := by omega
        go_wp2_with fail
        go_ret
        exact ⟨ret_int (by rw [← HA.out, List.take_of_length_le (by rw [List.length_zip, HN.out, HM9.out]; omega)]), hB⟩
set_option maxRecDepth 100000 in
set_option maxHeartbeats 4000000 in
theorem sRr_is (A A2 : Option Addr) (cap cap2 : Nat) (xs : List Int) (bs : List Bool) {n m : Nat} {wa o k r : Int} (w : World) (hn : xs.length = n) (hm : bs.length = m) (h : SRow encNum w A xs) (h2 : SRow encBool w A2 bs) (hl : n ≤ 2000000) (hl2 : m ≤ 2000000) (hr : rrI wa o k xs bs = r) :
    Calls Try.prog 15 #[.int .i64 wa, .int .i64 o, .int .i64 k, .slice A n cap, .slice A2 m cap2] w fun E w' => E = .returned (.int .i64 r) ∧ Below w.heap.size w w' := by
  have HN := Lib.hid hn
  have HM9 := Lib.hid hm
  clear hn hm
  subst hr
  cases hb9 : rrB wa o k xs bs
  · rw [rrI_no hb9]
    rcases rrB_false hb9 with hv | ⟨hv, hv2⟩ | ⟨hv, hv2, hv3⟩
    · have HM := Lib.hid hv
      have HM0 : Hid (rqI wa o 0 k = -1) := Lib.hid (rqI_no1 hv)
      clear hv
      clear hb9
      go_enter Try.func15, Try.ntmps15
      go_wp2_with fail
      refine (sRs_is _ HM0.out).mono ?_; rintro E w' ⟨rfl, rfl⟩
      go_wp2
      go_ret
      exact ⟨rfl, Below.refl _ _⟩
    · have HM := Lib.hid hv
      have hz0 := (rsR_bd hv (l := 0) (by omega) (by omega)).1
      have hz1 : rqI wa o 0 k = rsR wa o 0 k := rqI_yes hv rfl
      generalize rsR wa o 0 k = y0 at hz0 hz1
      have HM0 := Lib.hid hz1
      have hz2 : ¬ y0 < 0 := by omega
      clear hz1
      clear hv
      have HL := Lib.hid hv2
      clear hb9 hv2
      go_enter Try.func15, Try.ntmps15
      go_wp2_with fail
      refine (sRs_is _ HM0.out).mono ?_; rintro E w' ⟨rfl, rfl⟩
      go_wp2_with fail
      refine (sLt_is A cap xs _ HN.out h hl HL.out).mono ?_; rintro E w1 ⟨rfl, hw1⟩
      go_wp2
      go_ret
      exact ⟨rfl, hw1⟩
    · have HM := Lib.hid hv
      have hz0 := (rsR_bd hv (l := 0) (by omega) (by omega)).1
      have hz1 : rqI wa o 0 k = rsR wa o 0 k := rqI_yes hv rfl
      generalize rsR wa o 0 k = y0 at hz0 hz1
      have HM0 := Lib.hid hz1
      have hz2 : ¬ y0 < 0 := by omega
      clear hz1
      clear hv
      have HL := Lib.hid hv2
      rw [HN.out, HM9.out] at hv3
      have hmn : ¬ (m : Int) = (n : Int) := by omega
      have hmb : ((m : Int) != (n : Int)) = true := by rw [bne_iff_ne]; exact hmn
      have hz3 : decide (y0 < 0) = false := decide_eq_false hz2
      clear hb9 hv2 hv3
      go_enter Try.func15, Try.ntmps15
      go_wp2_with fail
      refine (sRs_is _ HM0.out).mono ?_; rintro E w' ⟨rfl, rfl⟩
      go_wp2_with fail
      refine (sLt_is A cap xs _ HN.out h hl HL.out).mono ?_; rintro E w1 ⟨rfl, hw1⟩
      go_wp2
      go_ret
      exact ⟨rfl, hw1⟩
  · rw [rrI_yes hb9]
    obtain ⟨hv, hv2, hv3⟩ := rrB_iff.1 hb9
    rw [HN.out, HM9.out] at hv3
    subst hv3
    have HOK := Lib.hid hv
    have hx9 := (ltB_iff.1 hv2).2
    have HX9 := Lib.hid hx9
    have hn60 : m ≤ 60 := by have := (ltB_iff.1 hv2).1; rw [HN.out] at this; exact this
    clear hx9
    have HM := Lib.hid hv
    have hz0 := (rsR_bd hv (l := 0) (by omega) (by omega)).1
    have hz1 : rqI wa o 0 k = rsR wa o 0 k := rqI_yes hv rfl
    generalize rsR wa o 0 k = y0 at hz0 hz1
    have HM0 := Lib.hid hz1
    have hz2 : ¬ y0 < 0 := by omega
    clear hz1
    clear hv
    have HL := Lib.hid hv2
    clear hb9 hv2
    go_enter Try.func15, Try.ntmps15
    go_wp2_with fail
    refine (sRs_is _ HM0.out).mono ?_; rintro E w' ⟨rfl, rfl⟩
    go_wp2_with fail
    refine (sLt_is A cap xs _ HN.out h hl HL.out).mono ?_; rintro E w1 ⟨rfl, hw1⟩
    go_wp2_with fail
    go_loopw [0, 11] (fun av iv wr => ∃ (j : Nat) (a : Int), iv = .int .i64 j ∧ j ≤ m ∧ av = .int .i64 a ∧ Hid (rrR o k wa ((xs.zip bs).take j) = a) ∧ Below w.heap.size w wr) (fun _ iv _ => (m - intOf iv).toNat)
    case atStart => exact ⟨0, wa, rfl, by omega, rfl, (by show _ = _; rfl), hw1⟩
    case round =>
      obtain ⟨j, a, rfl, j1, rfl, HA, hB⟩ := hrel
      by_cases hlt : j < m
      · have hj : j < xs.length := by rw [HN.out]; exact hlt
        have hj2 : j < bs.length := by rw [HM9.out]; exact hlt
        have hji : (j : Int) < (m : Int) := by omega
        obtain ⟨b, off, rfl, hb, c0⟩ := rowNum (h.next hB) hj
        obtain ⟨b2, off2, rfl, hb2, d0⟩ := rowBool (h2.next hB) hj2
        have hs := rrR_step hj hj2 wa o k
        rw [HA.out] at hs
        have hx0 := HX9.out xs[j] (List.getElem_mem hj)
        have hok : rmB a o k = true := by rw [← HA.out]; exact rrR_ok o k _ wa HOK.out (zip_lt HX9.out j)
        generalize xs[j] = x at c0 hs hx0
        generalize bs[j] = u at d0 hs
        obtain ⟨x0, x1⟩ := hx0
        clear HA
        cases u
        · have hs2 : rrR o k wa ((xs.zip bs).take (j + 1)) = rsR a o x k := hs
          have hin : inV x 0 100 = true := by unfold inV; simp; omega
          obtain ⟨a2, ha2⟩ : ∃ a2, rsR a o x k = a2 := ⟨_, rfl⟩
          rw [ha2] at hs2
          have HS := Lib.hid hs2
          have HR : Hid (rqI a o x k = a2) := Lib.hid ((rqI_yes hok hin).trans ha2)
          clear hs hs2 hin ha2 hok
          go_wp2_with fail
          refine (sRs_is _ HR.out).mono ?_; rintro E w' ⟨rfl, rfl⟩
          go_wp2_with fail
          go_roundw
          case rel => exact ⟨j + 1, a2, by go_num, by omega, rfl, HS, hB⟩
          case measure => simp [intOf]; omega
        · have hs2 : rrR o k wa ((xs.zip bs).take (j + 1)) = rsR a o 0 k := hs
          have hin : inV 0 0 100 = true := rfl
          obtain ⟨a2, ha2⟩ : ∃ a2, rsR a o 0 k = a2 := ⟨_, rfl⟩
          rw [ha2] at hs2
          have HS := Lib.hid hs2
          have HR : Hid (rqI a o 0 k = a2) := Lib.hid ((rqI_yes hok hin).trans ha2)
          clear hs hs2 hin ha2 hok
          go_wp2_with fail
          refine (sRs_is _ HR.out).mono ?_; rintro E w' ⟨rfl, rfl⟩
          go_wp2_with fail
          go_roundw
          case rel => exact ⟨j + 1, a2, by go_num, by omega, rfl, HS, hB⟩
          case measure => simp [intOf]; omega
      · have hji : ¬ (j : Int) < (m : Int) := by omega
        go_wp2_with fail
        go_ret
        exact ⟨ret_int (by rw [← HA.out, List.take_of_length_le (by rw [List.length_zip, HN.out, HM9.out]; omega)]), hB⟩
set_option maxRecDepth 100000 in
set_option maxHeartbeats 4000000 in
theorem iRt_is {wa o k r : Int} (w : World) (hr : rtI wa o k = r) :
    Calls Try.prog 17 #[.int .i64 wa, .int .i64 o, .int .i64 k] w fun E w' => E = .returned (.int .i64 r) ∧ Below w.heap.size w w' := by
  subst hr
  cases hv : rmB wa o k
  · rw [rtI_no hv]
    have HM := Lib.hid hv
    have HM0 : Hid (rqI wa o 0 k = -1) := Lib.hid (rqI_no1 hv)
    clear hv
    go_enter Try.func17, Try.ntmps17
    go_wp2_with fail
    refine (iRv_is _ HM.out).mono ?_; rintro E w' ⟨rfl, rfl⟩
    go_wp2
    go_ret
    exact ⟨rfl, Below.refl _ _⟩
  · rw [rtI_yes hv]
    obtain ⟨r, hr⟩ : ∃ r, rtD wa o k = r := ⟨_, rfl⟩
    have hrb := rtD_bd hv
    rw [hr] at hrb ⊢
    obtain ⟨r0, r1⟩ := hrb
    have HR := Lib.hid (show 0 + rtD wa o k = r by omega)
    have HM := Lib.hid hv
    clear hr
    clear hv
    go_enter Try.func17, Try.ntmps17
    go_wp2_with fail
    refine (iRv_is _ HM.out).mono ?_; rintro E w' ⟨rfl, rfl⟩
    go_wp2_with fail
    go_loopw [0, 7] (fun av cv wr => ∃ (a c : Int), av = .int .i64 a ∧ cv = .int .i64 c ∧ Hid (rmB a o k = true) ∧ Hid (c + rtD a o k = r) ∧ 0 ≤ c ∧ Below w.heap.size w wr) (fun av _ _ => (o - intOf av).natAbs)
    case atStart => exact ⟨wa, 0, rfl, rfl, HM, HR, by omega, Below.refl _ _⟩
    case round =>
      obtain ⟨a, c, rfl, rfl, HA, HC, hc0, hB⟩ := hrel
      have hbd := rtD_bd HA.out
      obtain ⟨a2, ha2⟩ : ∃ a2, rsR a o 0 k = a2 := ⟨_, rfl⟩
      have HQ : Hid (rqI a o 0 k = a2) := Lib.hid ((rqI_yes HA.out rfl).trans ha2)
      have hcr := HC.out
      have hc1 : c ≤ 500 := by omega
      clear hcr
      by_cases he : a2 = a
      · subst he
        have hz := rtD_rest ha2
        have HF : Hid (c = r) := Lib.hid (by rw [← HC.out, hz]; omega)
        clear hz ha2 hbd
        go_wp2_with fail
        refine (iRs_is _ HQ.out).mono ?_; rintro E w' ⟨rfl, rfl⟩
        go_wp2_with fail
        go_ret
        exact ⟨ret_int HF.out, hB⟩
      · have hne : rsR a o 0 k ≠ a := by rw [ha2]; exact he
        have h1 := rtD_next HA.out hne
        have h2 := rsR_less HA.out hne
        have h3 := rsR_ok HA.out (l := 0) (by omega) (by omega)
        rw [ha2] at h1 h2 h3
        have H1 : Hid (c + 1 + rtD a2 o k = r) := Lib.hid (by rw [← HC.out, h1]; omega)
        have H3 := Lib.hid h3
        clear h1 h3 hne ha2 hbd
        go_wp2_with fail
        refine (iRs_is _ HQ.out).mono ?_; rintro E w' ⟨rfl, rfl⟩
        go_wp2_with fail
        go_roundw
        case rel => exact ⟨a2, c + 1, rfl, by go_num, H3, H1, by omega, hB⟩
        case measure => simp [intOf]; omega
set_option maxRecDepth 100000 in
set_option maxHeartbeats 4000000 in
theorem sRt_is {wa o k r : Int} (w : World) (hr : rtI wa o k = r) :
    Calls Try.prog 18 #[.int .i64 wa, .int .i64 o, .int .i64 k] w fun E w' => E = .returned (.int .i64 r) ∧ Below w.heap.size w w' := by
  subst hr
  cases hv : rmB wa o k
  · rw [rtI_no hv]
    have HM := Lib.hid hv
    have HM0 : Hid (rqI wa o 0 k = -1) := Lib.hid (rqI_no1 hv)
    clear hv
    go_enter Try.func18, Try.ntmps18
    go_wp2_with fail
    refine (sRs_is _ HM0.out).mono ?_; rintro E w' ⟨rfl, rfl⟩
    go_wp2
    go_ret
    exact ⟨rfl, Below.refl _ _⟩
  · rw [rtI_yes hv]
    obtain ⟨r, hr⟩ : ∃ r, rtD wa o k = r := ⟨_, rfl⟩
    have hrb := rtD_bd hv
    rw [hr] at hrb ⊢
    obtain ⟨r0, r1⟩ := hrb
    have HR := Lib.hid (show 0 + rtD wa o k = r by omega)
    have HM := Lib.hid hv
    clear hr
    have hz0 := (rsR_bd hv (l := 0) (by omega) (by omega)).1
    have hz1 : rqI wa o 0 k = rsR wa o 0 k := rqI_yes hv rfl
    generalize rsR wa o 0 k = y0 at hz0 hz1
    have HM0 := Lib.hid hz1
    have hz2 : ¬ y0 < 0 := by omega
    clear hz1
    clear hv
    go_enter Try.func18, Try.ntmps18
    go_wp2_with fail
    refine (sRs_is _ HM0.out).mono ?_; rintro E w' ⟨rfl, rfl⟩
    go_wp2_with fail
    go_loopw [0, 7] (fun av cv wr => ∃ (a c : Int), av = .int .i64 a ∧ cv = .int .i64 c ∧ Hid (rmB a o k = true) ∧ Hid (c + rtD a o k = r) ∧ 0 ≤ c ∧ Below w.heap.size w wr) (fun av _ _ => (o - intOf av).natAbs)
    case atStart => exact ⟨wa, 0, rfl, rfl, HM, HR, by omega, Below.refl _ _⟩
    case round =>
      obtain ⟨a, c, rfl, rfl, HA, HC, hc0, hB⟩ := hrel
      have hbd := rtD_bd HA.out
      obtain ⟨a2, ha2⟩ : ∃ a2, rsR a o 0 k = a2 := ⟨_, rfl⟩
      have HQ : Hid (rqI a o 0 k = a2) := Lib.hid ((rqI_yes HA.out rfl).trans ha2)
      have hcr := HC.out
      have hc1 : c ≤ 500 := by omega
      clear hcr
      by_cases he : a2 = a
      · subst he
        have hz := rtD_rest ha2
        have HF : Hid (c = r) := Lib.hid (by rw [← HC.out, hz]; omega)
        clear hz ha2 hbd
        go_wp2_with fail
        refine (sRs_is _ HQ.out).mono ?_; rintro E w' ⟨rfl, rfl⟩
        go_wp2_with fail
        go_ret
        exact ⟨ret_int HF.out, hB⟩
      · have hne : rsR a o 0 k ≠ a := by rw [ha2]; exact he
        have h1 := rtD_next HA.out hne
        have h2 := rsR_less HA.out hne
        have h3 := rsR_ok HA.out (l := 0) (by omega) (by omega)
        rw [ha2] at h1 h2 h3
        have H1 : Hid (c + 1 + rtD a2 o k = r) := Lib.hid (by rw [← HC.out, h1]; omega)
        have H3 := Lib.hid h3
        clear h1 h3 hne ha2 hbd
        go_wp2_with fail
        refine (sRs_is _ HQ.out).mono ?_; rintro E w' ⟨rfl, rfl⟩
        go_wp2_with fail
        refine (sRs_is _ HQ.out).mono ?_; rintro E w' ⟨rfl, rfl⟩
        go_wp2_with fail
        go_roundw
        case rel => exact ⟨a2, c + 1, rfl, by go_num, H3, H1, by omega, hB⟩
        case measure => simp [intOf]; omega
end Go.Proofs.Ytpmbjdfecbmgoab
