/- Vl: texts joined. -/
import Derived.Test.YtbklgpghonigjaaGreatMQD
import Derived.Test.YtbklgpghonigjaaGreatMVa
import Derived.Test.YtbklgpghonigjaaGreatMVd
namespace Go.Proofs.YtbklgpghonigjaaGreat
open Go Go.ChangeShapes Go.WideShapes Go.ChangeAt Go.RowKit
set_option linter.unusedSimpArgs false
set_option linter.unusedVariables false
def shV (pe pn : Int) (re rn ru : Int) (v : VBlock) : Bool := shB pe pn v.1 v.2.1 v.2.2.1 v.2.2.2.1 v.2.2.2.2 re rn ru
def IdxB (p : VBlock → Bool) (xs : List VBlock) (r : Int) : Prop := (0 ≤ r ∧ xs.any p = true) ∨ (r = -1 ∧ xs.any p = false)
def liB (pe pn : Int) (xs : List VBlock) (re rn ru : Int) : Bool := plB pe pn && (bsB xs && (ryB re rn ru && !xs.any (shV pe pn re rn ru)))
theorem any_no {α : Type} {p : α → Bool} {xs : List α} {k n : Nat} (hn : xs.length = n) (hk : n ≤ k) (h : (xs.take k).any p = false) : xs.any p = false := by
  rwa [List.take_of_length_le (by omega)] at h
theorem any_step {α : Type} {p : α → Bool} {xs : List α} {k : Nat} (hk : k < xs.length) (ha : (xs.take k).any p = false) (h : p xs[k] = false) : (xs.take (k + 1)).any p = false := by
  rw [List.take_succ_eq_append_getElem hk, List.any_append, ha]; simp [h]
theorem any_yes {α : Type} {p : α → Bool} {xs : List α} {k : Nat} (hk : k < xs.length) (h : p xs[k] = true) : xs.any p = true := by
  rw [List.any_eq_true]; exact ⟨xs[k], List.getElem_mem hk, h⟩
set_option maxHeartbeats 4000000 in
theorem litf_is {pe pn re rn ru a b c d h : Int} {r : Bool} (P0 R0 : Nat) (w : World) (hP : w.heap[P0]? = some (.cells #[.int .i64 pe, .int .i64 pn] 25 (0, 0))) (hR : w.heap[R0]? = some (.cells #[.int .i64 re, .int .i64 rn, .int .i64 ru] 43 (0, 0))) (hr : shB pe pn a b c d h re rn ru = r) :
    Calls Tryz.prog 60 #[.agg #[.int .i64 a, .int .i64 b, .int .i64 c, .int .i64 d, .int .i64 h], .pointer (some ⟨P0, 0, none⟩), .pointer (some ⟨R0, 0, none⟩)] w fun E w' => E = .returned (.bool r) ∧ Below w.heap.size w w' := by
  obtain ⟨p0, p1, _, _, zp⟩ := blk2 hP
  obtain ⟨r0, r1, r2, _, _, _, zr⟩ := blk3 hR
  have HR := Lib.hid hr
  clear hr hP hR
  go_enter Tryz.func60, Tryz.ntmps60
  go_wp2_with fail
  refine (iSh_is _ HR.out).mono ?_; rintro e w1 ⟨rfl, hw1⟩
  have hB1 := (ownb hw1).2
  go_wp2
  go_ret
  exact ⟨rfl, hB1⟩
set_option maxHeartbeats 4000000 in
theorem idxb_any (A : Option Addr) (cap P0 R0 : Nat) (xs : List VBlock) {n : Nat} {pe pn re rn ru : Int} (w : World) (hn : xs.length = n) (h : SRow encBlock w A xs) (hl : n ≤ 2000000) (hP : w.heap[P0]? = some (.cells #[.int .i64 pe, .int .i64 pn] 25 (0, 0))) (hR : w.heap[R0]? = some (.cells #[.int .i64 re, .int .i64 rn, .int .i64 ru] 43 (0, 0))) :
    Calls Tryz.prog 112 #[.slice A n cap, .func (.func 60) #[] #[.pointer (some ⟨P0, 0, none⟩), .pointer (some ⟨R0, 0, none⟩)]] w fun E w' => ∃ r : Int, E = .returned (.int .i64 r) ∧ IdxB (shV pe pn re rn ru) xs r ∧ Below w.heap.size w w' := by
  have HN := Lib.hid hn
  clear hn
  go_enter Tryz.func112, Tryz.ntmps112
  go_wp2_with fail
  go_loopw [8] (fun v wr => ∃ k : Nat, v = .int .i64 k ∧ k ≤ n ∧ Hid ((xs.take k).any (shV pe pn re rn ru) = false) ∧ Below w.heap.size w wr) (fun v _ => (n - intOf v).toNat)
  case atStart => exact ⟨0, rfl, by omega, (by show _ = _; rfl), Below.refl _ _⟩
  case round =>
    obtain ⟨k, rfl, k1, HA, hB⟩ := hrel
    by_cases hlt : k < n
    · have hk : k < xs.length := by rw [HN.out]; exact hlt
      have hki : (k : Int) < (n : Int) := by omega
      obtain ⟨b, off, rfl, hb, c0, c1, c2, c3, c4⟩ := rowBlock (h.next hB) hk
      obtain ⟨v, hv⟩ : ∃ v, shV pe pn re rn ru xs[k] = v := ⟨_, rfl⟩
      have HV := Lib.hid hv
      clear hv
      go_wp2_with fail
      refine (litf_is P0 R0 _ (blk_next hP hB) (blk_next hR hB) HV.out).mono ?_; rintro e w1 ⟨rfl, hw1⟩
      have hB1 := bel_next hB hw1
      cases v
      · have HX := Lib.hid (any_step hk HA.out HV.out)
        go_wp2_with fail
        go_roundw
        case rel => exact ⟨k + 1, by go_num, by omega, HX, hB1⟩
        case measure => simp [intOf]; omega
      · go_wp2_with fail
        go_ret
        exact ⟨_, rfl, .inl ⟨by omega, any_yes hk HV.out⟩, hB1⟩
    · have hki : ¬ (k : Int) < (n : Int) := by omega
      have HX := Lib.hid (any_no HN.out (by omega) HA.out)
      go_wp2_with fail
      go_ret
      exact ⟨-1, rfl, .inr ⟨rfl, HX.out⟩, hB⟩
set_option maxHeartbeats 4000000 in
theorem conb_is (A : Option Addr) (cap P0 R0 : Nat) (xs : List VBlock) {n : Nat} {pe pn re rn ru : Int} {r : Bool} (w : World) (hn : xs.length = n) (h : SRow encBlock w A xs) (hl : n ≤ 2000000) (hP : w.heap[P0]? = some (.cells #[.int .i64 pe, .int .i64 pn] 25 (0, 0))) (hR : w.heap[R0]? = some (.cells #[.int .i64 re, .int .i64 rn, .int .i64 ru] 43 (0, 0))) (hr : xs.any (shV pe pn re rn ru) = r) :
    Calls Tryz.prog 59 #[.slice A n cap, .func (.func 60) #[] #[.pointer (some ⟨P0, 0, none⟩), .pointer (some ⟨R0, 0, none⟩)]] w fun E w' => E = .returned (.bool r) ∧ Below w.heap.size w w' := by
  have HR := Lib.hid hr
  clear hr
  go_enter Tryz.func59, Tryz.ntmps59
  go_wp2_with fail
  refine (idxb_any A cap P0 R0 xs w hn h hl hP hR).mono ?_; rintro e w1 ⟨q, rfl, hq, hw1⟩
  rcases hq with ⟨q0, hq⟩ | ⟨rfl, hq⟩
  · rw [HR.out] at hq
    subst hq
    go_wp2
    go_ret
    exact ⟨rfl, hw1⟩
  · rw [HR.out] at hq
    subst hq
    go_wp2
    go_ret
    exact ⟨rfl, hw1⟩
set_option maxHeartbeats 4000000 in
theorem iLi_any (A : Option Addr) (cap : Nat) (xs : List VBlock) {n : Nat} (pe pn re rn ru : Int) (w : World) (hn : xs.length = n) (h : SRow encBlock w A xs) (hl : n ≤ 2000000) :
    Calls Tryz.prog 19 #[.agg #[.int .i64 pe, .int .i64 pn], .slice A n cap, .agg #[.int .i64 re, .int .i64 rn, .int .i64 ru]] w fun E w' => E = .returned (.bool (liB pe pn xs re rn ru)) ∧ Below w.heap.size w w' := by
  have HN := Lib.hid hn
  clear hn
  cases hp : plB pe pn
  · have hv : liB pe pn xs re rn ru = false := by unfold liB; rw [hp]; simp
    rw [hv]
    clear hv
    have HP := Lib.hid hp
    clear hp
    go_enter Tryz.func19, Tryz.ntmps19
    go_wp2_with fail
    refine (iPV_is _ HP.out).mono ?_; rintro E w1 ⟨rfl, hw1⟩
    obtain ⟨hP1, hQ1, hB1⟩ := ownb2 hw1
    obtain ⟨cP1_0, cP1_1, fP1_0, fP1_1, zP1⟩ := blk2 hP1
    obtain ⟨cQ1_0, cQ1_1, cQ1_2, fQ1_0, fQ1_1, fQ1_2, zQ1⟩ := blk3 hQ1
    go_wp2
    go_ret
    exact ⟨rfl, hB1⟩
  · skip
    cases hb : bsB xs
    · have hv : liB pe pn xs re rn ru = false := by unfold liB; rw [hp, hb]; simp
      rw [hv]
      clear hv
      have HP := Lib.hid hp
      have HBs := Lib.hid hb
      clear hp hb
      go_enter Tryz.func19, Tryz.ntmps19
      go_wp2_with fail
      refine (iPV_is _ HP.out).mono ?_; rintro E w1 ⟨rfl, hw1⟩
      obtain ⟨hP1, hQ1, hB1⟩ := ownb2 hw1
      obtain ⟨cP1_0, cP1_1, fP1_0, fP1_1, zP1⟩ := blk2 hP1
      obtain ⟨cQ1_0, cQ1_1, cQ1_2, fQ1_0, fQ1_1, fQ1_2, zQ1⟩ := blk3 hQ1
      go_wp2_with fail
      refine (iBs_is A cap xs _ HN.out (h.next hB1) hl HBs.out).mono ?_; rintro E w2 ⟨rfl, hw2⟩
      have hP2 := blk_next hP1 hw2
      have hQ2 := blk_next hQ1 hw2
      have hB2 := bel_next hB1 hw2
      obtain ⟨cP2_0, cP2_1, fP2_0, fP2_1, zP2⟩ := blk2 hP2
      obtain ⟨cQ2_0, cQ2_1, cQ2_2, fQ2_0, fQ2_1, fQ2_2, zQ2⟩ := blk3 hQ2
      go_wp2
      go_ret
      exact ⟨rfl, hB2⟩
    · skip
      cases hr : ryB re rn ru
      · have hv : liB pe pn xs re rn ru = false := by unfold liB; rw [hp, hb, hr]; simp
        rw [hv]
        clear hv
        have HP := Lib.hid hp
        have HBs := Lib.hid hb
        have HR := Lib.hid hr
        clear hp hb hr
        go_enter Tryz.func19, Tryz.ntmps19
        go_wp2_with fail
        refine (iPV_is _ HP.out).mono ?_; rintro E w1 ⟨rfl, hw1⟩
        obtain ⟨hP1, hQ1, hB1⟩ := ownb2 hw1
        obtain ⟨cP1_0, cP1_1, fP1_0, fP1_1, zP1⟩ := blk2 hP1
        obtain ⟨cQ1_0, cQ1_1, cQ1_2, fQ1_0, fQ1_1, fQ1_2, zQ1⟩ := blk3 hQ1
        go_wp2_with fail
        refine (iBs_is A cap xs _ HN.out (h.next hB1) hl HBs.out).mono ?_; rintro E w2 ⟨rfl, hw2⟩
        have hP2 := blk_next hP1 hw2
        have hQ2 := blk_next hQ1 hw2
        have hB2 := bel_next hB1 hw2
        obtain ⟨cP2_0, cP2_1, fP2_0, fP2_1, zP2⟩ := blk2 hP2
        obtain ⟨cQ2_0, cQ2_1, cQ2_2, fQ2_0, fQ2_1, fQ2_2, zQ2⟩ := blk3 hQ2
        go_wp2_with fail
        refine (iRV_is _ HR.out).mono ?_; rintro E w3 ⟨rfl, hw3⟩
        have hP3 := blk_next hP2 hw3
        have hQ3 := blk_next hQ2 hw3
        have hB3 := bel_next hB2 hw3
        obtain ⟨cP3_0, cP3_1, fP3_0, fP3_1, zP3⟩ := blk2 hP3
        obtain ⟨cQ3_0, cQ3_1, cQ3_2, fQ3_0, fQ3_1, fQ3_2, zQ3⟩ := blk3 hQ3
        go_wp2
        go_ret
        exact ⟨rfl, hB3⟩
      · have hv : liB pe pn xs re rn ru = !xs.any (shV pe pn re rn ru) := by unfold liB; rw [hp, hb, hr]; simp
        rw [hv]
        clear hv
        have HP := Lib.hid hp
        have HBs := Lib.hid hb
        have HR := Lib.hid hr
        clear hp hb hr
        go_enter Tryz.func19, Tryz.ntmps19
        go_wp2_with fail
        refine (iPV_is _ HP.out).mono ?_; rintro E w1 ⟨rfl, hw1⟩
        obtain ⟨hP1, hQ1, hB1⟩ := ownb2 hw1
        obtain ⟨cP1_0, cP1_1, fP1_0, fP1_1, zP1⟩ := blk2 hP1
        obtain ⟨cQ1_0, cQ1_1, cQ1_2, fQ1_0, fQ1_1, fQ1_2, zQ1⟩ := blk3 hQ1
        go_wp2_with fail
        refine (iBs_is A cap xs _ HN.out (h.next hB1) hl HBs.out).mono ?_; rintro E w2 ⟨rfl, hw2⟩
        have hP2 := blk_next hP1 hw2
        have hQ2 := blk_next hQ1 hw2
        have hB2 := bel_next hB1 hw2
        obtain ⟨cP2_0, cP2_1, fP2_0, fP2_1, zP2⟩ := blk2 hP2
        obtain ⟨cQ2_0, cQ2_1, cQ2_2, fQ2_0, fQ2_1, fQ2_2, zQ2⟩ := blk3 hQ2
        go_wp2_with fail
        refine (iRV_is _ HR.out).mono ?_; rintro E w3 ⟨rfl, hw3⟩
        have hP3 := blk_next hP2 hw3
        have hQ3 := blk_next hQ2 hw3
        have hB3 := bel_next hB2 hw3
        obtain ⟨cP3_0, cP3_1, fP3_0, fP3_1, zP3⟩ := blk2 hP3
        obtain ⟨cQ3_0, cQ3_1, cQ3_2, fQ3_0, fQ3_1, fQ3_2, zQ3⟩ := blk3 hQ3
        obtain ⟨v, hv⟩ : ∃ v, xs.any (shV pe pn re rn ru) = v := ⟨_, rfl⟩
        have HV := Lib.hid hv
        clear hv
        go_wp2_with fail
        refine (conb_is A cap _ _ xs _ HN.out (h.next hB3) hl hP3 hQ3 HV.out).mono ?_; rintro E w4 ⟨rfl, hw4⟩
        have hB4 := bel_next hB3 hw4
        go_wp2
        go_ret
        exact ⟨ret_bool (by rw [HV.out]), hB4⟩
set_option maxRecDepth 100000 in
set_option maxHeartbeats 4000000 in
theorem sLi_any (A : Option Addr) (cap : Nat) (xs : List VBlock) {n : Nat} (pe pn re rn ru : Int) (w : World) (hn : xs.length = n) (h : SRow encBlock w A xs) (hl : n ≤ 2000000) :
    Calls Tryz.prog 48 #[.agg #[.int .i64 pe, .int .i64 pn], .slice A n cap, .agg #[.int .i64 re, .int .i64 rn, .int .i64 ru]] w fun E w' => E = .returned (.bool (liB pe pn xs re rn ru)) ∧ Below w.heap.size w w' := by
  have HN := Lib.hid hn
  clear hn
  cases hp : plB pe pn
  · have hv : liB pe pn xs re rn ru = false := by unfold liB; rw [hp]; simp
    rw [hv]
    clear hv
    have HP := Lib.hid hp
    clear hp
    go_enter Tryz.func48, Tryz.ntmps48
    go_wp2_with fail
    refine (sPV_is _ HP.out).mono ?_; rintro E w1 ⟨rfl, hw1⟩
    obtain ⟨hP1, hQ1, hB1⟩ := ownb2 hw1
    obtain ⟨cP1_0, cP1_1, fP1_0, fP1_1, zP1⟩ := blk2 hP1
    obtain ⟨cQ1_0, cQ1_1, cQ1_2, fQ1_0, fQ1_1, fQ1_2, zQ1⟩ := blk3 hQ1
    go_wp2
    go_ret
    exact ⟨rfl, hB1⟩
  · skip
    cases hb : bsB xs
    · have hv : liB pe pn xs re rn ru = false := by unfold liB; rw [hp, hb]; simp
      rw [hv]
      clear hv
      have HP := Lib.hid hp
      have HBs := Lib.hid hb
      clear hp hb
      go_enter Tryz.func48, Tryz.ntmps48
      go_wp2_with fail
      refine (sPV_is _ HP.out).mono ?_; rintro E w1 ⟨rfl, hw1⟩
      obtain ⟨hP1, hQ1, hB1⟩ := ownb2 hw1
      obtain ⟨cP1_0, cP1_1, fP1_0, fP1_1, zP1⟩ := blk2 hP1
      obtain ⟨cQ1_0, cQ1_1, cQ1_2, fQ1_0, fQ1_1, fQ1_2, zQ1⟩ := blk3 hQ1
      go_wp2_with fail
      refine (sBs_is A cap xs _ HN.out (h.next hB1) hl HBs.out).mono ?_; rintro E w2 ⟨rfl, hw2⟩
      have hP2 := blk_next hP1 hw2
      have hQ2 := blk_next hQ1 hw2
      have hB2 := bel_next hB1 hw2
      obtain ⟨cP2_0, cP2_1, fP2_0, fP2_1, zP2⟩ := blk2 hP2
      obtain ⟨cQ2_0, cQ2_1, cQ2_2, fQ2_0, fQ2_1, fQ2_2, zQ2⟩ := blk3 hQ2
      go_wp2
      go_ret
      exact ⟨rfl, hB2⟩
    · skip
      cases hr : ryB re rn ru
      · have hv : liB pe pn xs re rn ru = false := by unfold liB; rw [hp, hb, hr]; simp
        rw [hv]
        clear hv
        have HP := Lib.hid hp
        have HBs := Lib.hid hb
        have HR := Lib.hid hr
        clear hp hb hr
        go_enter Tryz.func48, Tryz.ntmps48
        go_wp2_with fail
        refine (sPV_is _ HP.out).mono ?_; rintro E w1 ⟨rfl, hw1⟩
        obtain ⟨hP1, hQ1, hB1⟩ := ownb2 hw1
        obtain ⟨cP1_0, cP1_1, fP1_0, fP1_1, zP1⟩ := blk2 hP1
        obtain ⟨cQ1_0, cQ1_1, cQ1_2, fQ1_0, fQ1_1, fQ1_2, zQ1⟩ := blk3 hQ1
        go_wp2_with fail
        refine (sBs_is A cap xs _ HN.out (h.next hB1) hl HBs.out).mono ?_; rintro E w2 ⟨rfl, hw2⟩
        have hP2 := blk_next hP1 hw2
        have hQ2 := blk_next hQ1 hw2
        have hB2 := bel_next hB1 hw2
        obtain ⟨cP2_0, cP2_1, fP2_0, fP2_1, zP2⟩ := blk2 hP2
        obtain ⟨cQ2_0, cQ2_1, cQ2_2, fQ2_0, fQ2_1, fQ2_2, zQ2⟩ := blk3 hQ2
        go_wp2_with fail
        refine (sRV_is _ HR.out).mono ?_; rintro E w3 ⟨rfl, hw3⟩
        have hP3 := blk_next hP2 hw3
        have hQ3 := blk_next hQ2 hw3
        have hB3 := bel_next hB2 hw3
        obtain ⟨cP3_0, cP3_1, fP3_0, fP3_1, zP3⟩ := blk2 hP3
        obtain ⟨cQ3_0, cQ3_1, cQ3_2, fQ3_0, fQ3_1, fQ3_2, zQ3⟩ := blk3 hQ3
        go_wp2
        go_ret
        exact ⟨rfl, hB3⟩
      · have hv : liB pe pn xs re rn ru = !xs.any (shV pe pn re rn ru) := by unfold liB; rw [hp, hb, hr]; simp
        rw [hv]
        clear hv
        have HP := Lib.hid hp
        have HBs := Lib.hid hb
        have HR := Lib.hid hr
        clear hp hb hr
        go_enter Tryz.func48, Tryz.ntmps48
        go_wp2_with fail
        refine (sPV_is _ HP.out).mono ?_; rintro E w1 ⟨rfl, hw1⟩
        obtain ⟨hP1, hQ1, hB1⟩ := ownb2 hw1
        obtain ⟨cP1_0, cP1_1, fP1_0, fP1_1, zP1⟩ := blk2 hP1
        obtain ⟨cQ1_0, cQ1_1, cQ1_2, fQ1_0, fQ1_1, fQ1_2, zQ1⟩ := blk3 hQ1
        go_wp2_with fail
        refine (sBs_is A cap xs _ HN.out (h.next hB1) hl HBs.out).mono ?_; rintro E w2 ⟨rfl, hw2⟩
        have hP2 := blk_next hP1 hw2
        have hQ2 := blk_next hQ1 hw2
        have hB2 := bel_next hB1 hw2
        obtain ⟨cP2_0, cP2_1, fP2_0, fP2_1, zP2⟩ := blk2 hP2
        obtain ⟨cQ2_0, cQ2_1, cQ2_2, fQ2_0, fQ2_1, fQ2_2, zQ2⟩ := blk3 hQ2
        go_wp2_with fail
        refine (sRV_is _ HR.out).mono ?_; rintro E w3 ⟨rfl, hw3⟩
        have hP3 := blk_next hP2 hw3
        have hQ3 := blk_next hQ2 hw3
        have hB3 := bel_next hB2 hw3
        obtain ⟨cP3_0, cP3_1, fP3_0, fP3_1, zP3⟩ := blk2 hP3
        obtain ⟨cQ3_0, cQ3_1, cQ3_2, fQ3_0, fQ3_1, fQ3_2, zQ3⟩ := blk3 hQ3
        go_wp2_with fail
        go_loopw [7] (fun v wr => ∃ k : Nat, v = .int .i64 k ∧ k ≤ n ∧ Hid ((xs.take k).any (shV pe pn re rn ru) = false) ∧ wr.heap[w.heap.size]? = some (.cells #[.int .i64 pe, .int .i64 pn] 25 (0, 0)) ∧ wr.heap[w.heap.size + 1]? = some (.cells #[.int .i64 re, .int .i64 rn, .int .i64 ru] 43 (0, 0)) ∧ Below w.heap.size w wr) (fun v _ => (n - intOf v).toNat)
        case atStart => exact ⟨0, rfl, by omega, (by show _ = _; rfl), hP3, hQ3, hB3⟩
        case round =>
          obtain ⟨k, rfl, k1, HS, hP, hQ, hB⟩ := hrel
          by_cases hlt : k < n
          · have hk : k < xs.length := by rw [HN.out]; exact hlt
            have hki : (k : Int) < (n : Int) := by omega
            obtain ⟨b, off, rfl, hb, _⟩ := rowBlock h hk
            have HA : Hid (∀ wv, Below w.heap.size w wv → wv.cell? ⟨b, off + k * 5, none⟩ = some (.int .i64 xs[k].1) ∧ wv.cell? ⟨b, off + k * 5 + 1, none⟩ = some (.int .i64 xs[k].2.1) ∧ wv.cell? ⟨b, off + k * 5 + 2, none⟩ = some (.int .i64 xs[k].2.2.1) ∧ wv.cell? ⟨b, off + k * 5 + 3, none⟩ = some (.int .i64 xs[k].2.2.2.1) ∧ wv.cell? ⟨b, off + k * 5 + 4, none⟩ = some (.int .i64 xs[k].2.2.2.2)) := by
              intro wv hw
              obtain ⟨_, _, e, _, hc⟩ := rowBlock (h.next hw) hk
              simp only [Option.some.injEq, Addr.mk.injEq, and_true] at e
              obtain ⟨rfl, rfl⟩ := e
              exact hc
            obtain ⟨v, hv⟩ : ∃ v, shV pe pn re rn ru xs[k] = v := ⟨_, rfl⟩
            have HV := Lib.hid hv
            clear hv
            go_wp2_with fail
            refine wp_region_held_drew (S := (fun w' => w'.heap[w.heap.size]? = some (.cells #[.int .i64 pe, .int .i64 pn] 25 (0, 0)) ∧ w'.heap[w.heap.size + 1]? = some (.cells #[.int .i64 re, .int .i64 rn, .int .i64 ru] 43 (0, 0)) ∧ Below w.heap.size w w')) (by kernel_rfl) ⟨hP, hQ, hB.drew⟩ (fun hHeld => ?_)
            obtain ⟨hP_0, hQ_0, hB_0⟩ := id hHeld
            refine wpAnyH_take (i := 0) (oi := _) (v := ?_) rfl (by kernel_rfl) (by kernel_rfl) (by kernel_rfl) (fun _ _ _ h => h) (Or.inl ⟨by rfl, ?_⟩) (by assumption) ?_
            (rotate_left); (focus (intro wv hSw; (obtain ⟨qP, qQ, qB⟩ := hSw); obtain ⟨m0, m1, _, _, mz⟩ := blk2 qP; go_simp; (try with_reducible rfl)))
            try simp only [Act.put, List.getElem_toArray, List.getElem_cons_succ, List.getElem_cons_zero, List.setIfInBounds_toArray, List.set_cons_zero, List.set_cons_succ]
            refine wpAnyH_take (i := 1) (oi := _) (v := ?_) rfl (by kernel_rfl) (by kernel_rfl) (by kernel_rfl) (fun _ _ _ h => h) (Or.inl ⟨by rfl, ?_⟩) (by assumption) ?_
            (rotate_left); (focus (intro wv hSw; (obtain ⟨qP, qQ, qB⟩ := hSw);  go_simp; (try with_reducible rfl)))
            try simp only [Act.put, List.getElem_toArray, List.getElem_cons_succ, List.getElem_cons_zero, List.setIfInBounds_toArray, List.set_cons_zero, List.set_cons_succ]
            refine wpAnyH_take (i := 2) (oi := _) (v := ?_) rfl (by kernel_rfl) (by kernel_rfl) (by kernel_rfl) (fun _ _ _ h => h) (Or.inl ⟨by rfl, ?_⟩) (by assumption) ?_
            (rotate_left); (focus (intro wv hSw; (obtain ⟨qP, qQ, qB⟩ := hSw);  go_simp; (try with_reducible rfl)))
            try simp only [Act.put, List.getElem_toArray, List.getElem_cons_succ, List.getElem_cons_zero, List.setIfInBounds_toArray, List.set_cons_zero, List.set_cons_succ]
            refine wpAnyH_take (i := 3) (oi := _) (v := ?_) rfl (by kernel_rfl) (by kernel_rfl) (by kernel_rfl) (fun _ _ _ h => h) (Or.inl ⟨by rfl, ?_⟩) (by assumption) ?_
            (rotate_left); (focus (intro wv hSw; (obtain ⟨qP, qQ, qB⟩ := hSw);  go_simp; (try with_reducible rfl)))
            try simp only [Act.put, List.getElem_toArray, List.getElem_cons_succ, List.getElem_cons_zero, List.setIfInBounds_toArray, List.set_cons_zero, List.set_cons_succ]
            refine wpAnyH_take (i := 4) (oi := _) (v := ?_) rfl (by kernel_rfl) (by kernel_rfl) (by kernel_rfl) (fun _ _ _ h => h) (Or.inl ⟨by rfl, ?_⟩) (by assumption) ?_
            (rotate_left); (focus (intro wv hSw; (obtain ⟨qP, qQ, qB⟩ := hSw); obtain ⟨m0, m1, m2, m3, m4⟩ := HA.out wv qB; go_simp; (try with_reducible rfl)))
            try simp only [Act.put, List.getElem_toArray, List.getElem_cons_succ, List.getElem_cons_zero, List.setIfInBounds_toArray, List.set_cons_zero, List.set_cons_succ]
            refine wpAnyH_take (i := 5) (oi := _) (v := ?_) rfl (by kernel_rfl) (by kernel_rfl) (by kernel_rfl) (fun _ _ _ h => h) (Or.inl ⟨by rfl, ?_⟩) (by assumption) ?_
            (rotate_left); (focus (intro wv hSw; (obtain ⟨qP, qQ, qB⟩ := hSw); obtain ⟨m0, m1, m2, _, _, _, mz⟩ := blk3 qQ; go_simp; (try with_reducible rfl)))
            try simp only [Act.put, List.getElem_toArray, List.getElem_cons_succ, List.getElem_cons_zero, List.setIfInBounds_toArray, List.set_cons_zero, List.set_cons_succ]
            refine wpAnyH_ready (rs := [6]) (by kernel_rfl) (by simp) ?_
            refine AllReadyH.cons (o := _) rfl (fun K hK => ?_) AllReadyH.nil
            go_simp
            (go_at_call 97; refine (sSh_is _ HV.out).mono ?_; rintro e x0c ⟨rfl, hw_0c⟩)
            refine hK.out _ _ ⟨blk_next hP_0 hw_0c, blk_next hQ_0 hw_0c, bel_next hB_0 hw_0c⟩ (fun hHeld => ?_)
            clear hK K
            try simp only [Act.put, List.getElem_toArray, List.getElem_cons_succ, List.getElem_cons_zero, List.setIfInBounds_toArray, List.set_cons_zero, List.set_cons_succ]
            obtain ⟨hP_0c, hQ_0c, hB_0c⟩ := id hHeld
            refine wpAnyH_done (by kernel_rfl) ?_ _
            cases v
            · have HX := Lib.hid (any_step hk HS.out HV.out)
              go_wp2_with fail
              go_roundw
              case rel => exact ⟨k + 1, by go_num, by omega, HX, hP_0c, hQ_0c, hB_0c⟩
              case measure => simp [intOf]; omega
            · go_wp2_with fail
              go_ret
              exact ⟨ret_bool (by rw [any_yes hk HV.out]; rfl), hB_0c⟩
          · have hki : ¬ (k : Int) < (n : Int) := by omega
            have HX := Lib.hid (any_no HN.out (by omega) HS.out)
            go_wp2_with fail
            go_ret
            exact ⟨ret_bool (by rw [HX.out]; rfl), hB⟩
theorem iLi_is (A : Option Addr) (cap : Nat) (xs : List VBlock) {n : Nat} (pe pn re rn ru : Int) (w : World) (hn : xs.length = n) (h : SRow encBlock w A xs) (hl : n ≤ 2000000) {r : Bool} (hr : liB pe pn xs re rn ru = r) : Calls Tryz.prog 19 #[.agg #[.int .i64 pe, .int .i64 pn], .slice A n cap, .agg #[.int .i64 re, .int .i64 rn, .int .i64 ru]] w fun E w' => E = .returned (.bool r) ∧ Below w.heap.size w w' := by subst hr; exact iLi_any A cap xs pe pn re rn ru w hn h hl
theorem sLi_is (A : Option Addr) (cap : Nat) (xs : List VBlock) {n : Nat} (pe pn re rn ru : Int) (w : World) (hn : xs.length = n) (h : SRow encBlock w A xs) (hl : n ≤ 2000000) {r : Bool} (hr : liB pe pn xs re rn ru = r) : Calls Tryz.prog 48 #[.agg #[.int .i64 pe, .int .i64 pn], .slice A n cap, .agg #[.int .i64 re, .int .i64 rn, .int .i64 ru]] w fun E w' => E = .returned (.bool r) ∧ Below w.heap.size w w' := by subst hr; exact sLi_any A cap xs pe pn re rn ru w hn h hl
end Go.Proofs.YtbklgpghonigjaaGreat
