/- Contracts of chapter 6: cities that are valid, cells beside each other. -/
import Derived.Test.YtidppabconifkaaVs
import Derived.Test.YtidppabconifkaaGCity
import Derived.Test.YtidppabconifkaaYm
import Derived.RegionTactic
namespace Go.Proofs.Ytidppabconifkaa
open Go Go.ChangeShapes Go.WideShapes Go.ChangeAt Go.RowKit
set_option linter.unusedSimpArgs false
set_option linter.unusedVariables false

theorem iInV_isY (n a b : Int) (r : Bool) (w : World) (h : inV n a b = r) : Calls Try.prog 47 #[.int .i64 n, .int .i64 a, .int .i64 b] w fun E w' => E = .returned (.bool r) ∧ w = w' := by subst h; exact iInV_any n a b w
theorem alY_no {xs : List Int} {k : Nat} (hk : k < xs.length) (h : tlB xs[k] = false) : xs.all tlB = false := by
  rw [List.all_eq_false]; exact ⟨xs[k], List.getElem_mem hk, by simp [h]⟩
theorem alY_yes {xs : List Int} {k n : Nat} (hn : xs.length = n) (hk : n ≤ k) (h : (xs.take k).all tlB = true) : xs.all tlB = true := by
  rwa [List.take_of_length_le (by omega)] at h
theorem alY_step {xs : List Int} {k : Nat} (hk : k < xs.length) (ha : (xs.take k).all tlB = true) (h : tlB xs[k] = true) : (xs.take (k + 1)).all tlB = true := by
  rw [List.take_succ_eq_append_getElem hk, List.all_append, ha]; simp [h]
theorem sq_rng {d : Int} (h0 : 1 ≤ d) (h1 : d ≤ 6) : 1 ≤ d * d ∧ d * d ≤ 36 := by
  have : d = 1 ∨ d = 2 ∨ d = 3 ∨ d = 4 ∨ d = 5 ∨ d = 6 := by omega
  rcases this with rfl | rfl | rfl | rfl | rfl | rfl <;> omega
theorem cv_no1 {d : Int} {xs : List Int} (h : inV d 1 6 = false) : cvB d xs = false := by unfold cvB; unfold inV at h; rw [h]; rfl
theorem cv_no2 {d : Int} {xs : List Int} (h : ¬ (xs.length : Int) = d * d) : cvB d xs = false := by unfold cvB; simp [h]
theorem cv_no3 {d : Int} {xs : List Int} (h : xs.all tlB = false) : cvB d xs = false := by unfold cvB; rw [h]; simp
theorem cv_yes {d : Int} {xs : List Int} (h1 : inV d 1 6 = true) (h2 : (xs.length : Int) = d * d) (h3 : xs.all tlB = true) : cvB d xs = true := by unfold cvB; unfold inV at h1; rw [h1, h3]; simp [h2]
set_option maxHeartbeats 4000000 in
theorem iTVY (t : Int) (r : Bool) (w : World) (hr : tlB t = r) :
    Calls Try.prog 49 #[.int .i64 t] w fun E w' => E = .returned (.bool r) ∧ w = w' := by
  subst hr
  go_enter Try.func49, Try.ntmps49
  go_wp2_with (go_at_call 47; refine (iInV_any _ _ _ _).mono ?_; rintro E w' ⟨rfl, rfl⟩)
  go_ret
  exact ⟨rfl, rfl⟩
set_option maxHeartbeats 4000000 in
theorem iAllInt (A : Option Addr) (cap : Nat) (xs : List Int) {r : Bool} {n : Nat} (w : World) (hn : xs.length = n) (h : SRow encNum w A xs) (hl : n ≤ 2000000) (hr : xs.all tlB = r) :
    Calls Try.prog 48 #[.slice A n cap, .func (.func 49) #[] #[]] w fun E w' => E = .returned (.bool r) ∧ Below w.heap.size w w' := by
  subst hr
  have HN := Lib.hid hn
  clear hn
  go_enter Try.func48, Try.ntmps48
  go_wp2_with fail
  go_loopw [9] (fun v wr => ∃ k : Nat, v = .int .i64 k ∧ k ≤ n ∧ Hid ((xs.take k).all tlB = true) ∧ Below w.heap.size w wr) (fun v _ => (n - intOf v).toNat)
  case atStart => exact ⟨0, rfl, by omega, (by show _ = _; rfl), Below.refl _ _⟩
  case round =>
    obtain ⟨k, rfl, k1, HA, hB⟩ := hrel
    by_cases hlt : k < n
    · have hk : k < xs.length := by rw [HN.out]; exact hlt
      have hki : (k : Int) < (n : Int) := by omega
      obtain ⟨b, off, rfl, hb, c0⟩ := rowNum (h.next hB) hk
      obtain ⟨v, hv⟩ : ∃ v, tlB xs[k] = v := ⟨_, rfl⟩
      have HV := Lib.hid hv
      clear hv
      go_wp2_with fail
      refine (iTVY _ _ _ HV.out).mono ?_; rintro E w' ⟨rfl, rfl⟩
      cases v
      · go_wp2_with fail
        go_ret
        exact ⟨ret_bool (alY_no hk HV.out).symm, hB⟩
      · go_wp2_with fail
        go_roundw
        case rel => exact ⟨k + 1, by go_num, by omega, Lib.hid (alY_step hk HA.out HV.out), hB⟩
        case measure => simp [intOf]; omega
    · have hki : ¬ (k : Int) < (n : Int) := by omega
      go_wp2_with fail
      go_ret
      exact ⟨ret_bool (alY_yes HN.out (by omega) HA.out).symm, hB⟩
set_option maxHeartbeats 4000000 in
theorem iCv_any (d : Int) (A : Option Addr) (cap : Nat) (xs : List Int) {n : Nat} (w : World) (hn : xs.length = n) (h : SRow encNum w A xs) (hl : n ≤ 2000000) :
    Calls Try.prog 13 #[.agg #[.int .i64 d, .slice A n cap]] w fun E w' => E = .returned (.bool (cvB d xs)) ∧ Below w.heap.size w w' := by
  cases hr : inV d 1 6
  · rw [cv_no1 hr]
    have HR := Lib.hid hr
    clear hr
    go_enter Try.func13, Try.ntmps13
    go_wp2_with fail
    refine (iInV_isY d 1 6 _ _ HR.out).mono ?_; rintro E w' ⟨rfl, rfl⟩
    go_wp2
    go_ret
    exact ⟨rfl, bel1 _ _⟩
  · by_cases he : (n : Int) = d * d
    · obtain ⟨v, hv⟩ : ∃ v, xs.all tlB = v := ⟨_, rfl⟩
      have hc : cvB d xs = v := by cases v; exact cv_no3 hv; exact cv_yes hr (by rw [hn]; exact he) hv
      have hd : 1 ≤ d ∧ d ≤ 6 := by unfold inV at hr; simpa using hr
      obtain ⟨d0, d1⟩ := hd
      obtain ⟨s0, s1⟩ := sq_rng d0 d1
      have HR := Lib.hid hr
      clear hr
      have HC := Lib.hid hc
      have HV := Lib.hid hv
      have HN := Lib.hid hn
      have heb : ((n : Int) == d * d) = true := by rw [beq_iff_eq]; exact he
      clear hc hv hn he
      go_enter Try.func13, Try.ntmps13
      go_wp2_with fail
      refine (iInV_isY d 1 6 _ _ HR.out).mono ?_; rintro E w' ⟨rfl, rfl⟩
      go_wp2_with fail
      refine (iAllInt A cap xs _ HN.out (h.next (bel1 _ _)) hl HV.out).mono ?_; rintro E w1 ⟨rfl, hw1⟩
      have hB1 := (ownb hw1).2
      go_wp2
      go_ret
      exact ⟨ret_bool HC.out.symm, hB1⟩
    · rw [cv_no2 (by rw [hn]; exact he)]
      have hd : 1 ≤ d ∧ d ≤ 6 := by unfold inV at hr; simpa using hr
      obtain ⟨d0, d1⟩ := hd
      obtain ⟨s0, s1⟩ := sq_rng d0 d1
      have HR := Lib.hid hr
      clear hr
      have heb : ((n : Int) == d * d) = false := by rw [beq_eq_false_iff_ne]; exact he
      clear hn he
      go_enter Try.func13, Try.ntmps13
      go_wp2_with fail
      refine (iInV_isY d 1 6 _ _ HR.out).mono ?_; rintro E w' ⟨rfl, rfl⟩
      go_wp2
      go_ret
      exact ⟨rfl, bel1 _ _⟩
set_option maxHeartbeats 4000000 in
theorem sCv_any (d : Int) (A : Option Addr) (cap : Nat) (xs : List Int) {n : Nat} (w : World) (hn : xs.length = n) (h : SRow encNum w A xs) (hl : n ≤ 2000000) :
    Calls Try.prog 14 #[.agg #[.int .i64 d, .slice A n cap]] w fun E w' => E = .returned (.bool (cvB d xs)) ∧ Below w.heap.size w w' := by
  have HN := Lib.hid hn
  clear hn
  go_enter Try.func14, Try.ntmps14
  go_wp2_with fail
  go_loopw [3] (fun v wr => ∃ k : Nat, v = .int .i64 k ∧ k ≤ n ∧ Hid ((xs.take k).all tlB = true) ∧ wr.heap[w.heap.size]? = some (.cells #[.int .i64 d, .slice A n cap] 25 (0, 0)) ∧ Below w.heap.size w wr) (fun v _ => (n - intOf v).toNat)
  case atStart => exact ⟨0, rfl, by omega, (by show _ = _; rfl), blk_new w _, bel1 w _⟩
  case round =>
    obtain ⟨k, rfl, k1, HA, hP1, hB⟩ := hrel
    obtain ⟨p0, p1, f0, f1, zp⟩ := blk2 hP1
    by_cases hlt : k < n
    · have hk : k < xs.length := by rw [HN.out]; exact hlt
      have hki : (k : Int) < (n : Int) := by omega
      obtain ⟨b, off, rfl, hb, c0⟩ := rowNum (h.next hB) hk
      obtain ⟨v, hv⟩ : ∃ v, tlB xs[k] = v := ⟨_, rfl⟩
      have HV := Lib.hid hv
      clear hv
      go_wp2_with fail
      refine (l1V_is _ 0 20 _ _ HV.out).mono ?_; rintro E w' ⟨rfl, rfl⟩
      cases v
      · go_wp2_with fail
        go_ret
        exact ⟨ret_bool (cv_no3 (alY_no hk HV.out)).symm, hB⟩
      · go_wp2_with fail
        go_roundw
        case rel => exact ⟨k + 1, by go_num, by omega, Lib.hid (alY_step hk HA.out HV.out), hP1, hB⟩
        case measure => simp [intOf]; omega
    · have hki : ¬ (k : Int) < (n : Int) := by omega
      have ha := alY_yes HN.out (by omega) HA.out
      clear HA
      cases hr : inV d 1 6
      · have HF := Lib.hid (cv_no1 (xs := xs) hr)
        have HR := Lib.hid hr
        clear hr ha
        go_wp2_with fail
        refine (l1V_is d 1 6 _ _ HR.out).mono ?_; rintro E w' ⟨rfl, rfl⟩
        go_wp2
        go_ret
        exact ⟨ret_bool HF.out.symm, hB⟩
      · by_cases he : (n : Int) = d * d
        · have HF := Lib.hid (cv_yes hr (by rw [HN.out]; exact he) ha)
          have hd : 1 ≤ d ∧ d ≤ 6 := by unfold inV at hr; simpa using hr
          obtain ⟨d0, d1⟩ := hd
          obtain ⟨s0, s1⟩ := sq_rng d0 d1
          have HR := Lib.hid hr
          clear hr
          have heb : ((n : Int) == d * d) = true := by rw [beq_iff_eq]; exact he
          clear he ha
          go_wp2_with fail
          refine (l1V_is d 1 6 _ _ HR.out).mono ?_; rintro E w' ⟨rfl, rfl⟩
          go_wp2
          go_ret
          exact ⟨ret_bool HF.out.symm, hB⟩
        · have HF := Lib.hid (cv_no2 (d := d) (xs := xs) (by rw [HN.out]; exact he))
          have hd : 1 ≤ d ∧ d ≤ 6 := by unfold inV at hr; simpa using hr
          obtain ⟨d0, d1⟩ := hd
          obtain ⟨s0, s1⟩ := sq_rng d0 d1
          have HR := Lib.hid hr
          clear hr
          have heb : ((n : Int) == d * d) = false := by rw [beq_eq_false_iff_ne]; exact he
          clear he ha
          go_wp2_with fail
          refine (l1V_is d 1 6 _ _ HR.out).mono ?_; rintro E w' ⟨rfl, rfl⟩
          go_wp2
          go_ret
          exact ⟨ret_bool HF.out.symm, hB⟩
theorem iCv_is (d : Int) (A : Option Addr) (cap : Nat) (xs : List Int) {r : Bool} {n : Nat} (w : World) (hn : xs.length = n) (h : SRow encNum w A xs) (hl : n ≤ 2000000) (hr : cvB d xs = r) : Calls Try.prog 13 #[.agg #[.int .i64 d, .slice A n cap]] w fun E w' => E = .returned (.bool r) ∧ Below w.heap.size w w' := by subst hr; exact iCv_any d A cap xs w hn h hl
theorem sCv_is (d : Int) (A : Option Addr) (cap : Nat) (xs : List Int) {r : Bool} {n : Nat} (w : World) (hn : xs.length = n) (h : SRow encNum w A xs) (hl : n ≤ 2000000) (hr : cvB d xs = r) : Calls Try.prog 14 #[.agg #[.int .i64 d, .slice A n cap]] w fun E w' => E = .returned (.bool r) ∧ Below w.heap.size w w' := by subst hr; exact sCv_any d A cap xs w hn h hl
set_option maxHeartbeats 4000000 in
theorem iCe_any (d c : Int) (A : Option Addr) (n cap : Nat) (w : World) (hl : n ≤ 2000000) :
    Calls Try.prog 54 #[.agg #[.int .i64 d, .slice A n cap], .int .i64 c] w fun E w' => E = .returned (.bool (inV c 0 ((n : Int) - 1))) ∧ Below w.heap.size w w' := by
  go_enter Try.func54, Try.ntmps54
  go_wp2_with (go_at_call 47; refine (iInV_any _ _ _ _).mono ?_; rintro E w' ⟨rfl, rfl⟩)
  go_ret
  exact ⟨rfl, bel1 _ _⟩
set_option maxHeartbeats 4000000 in
theorem iDv_any (e : Int) (w : World) :
    Calls Try.prog 55 #[.int .i64 e] w fun E w' => E = .returned (.bool (inV e 0 3)) ∧ w = w' := by
  go_enter Try.func55, Try.ntmps55
  go_wp2_with (go_at_call 47; refine (iInV_any _ _ _ _).mono ?_; rintro E w' ⟨rfl, rfl⟩)
  go_ret
  exact ⟨rfl, rfl⟩
theorem iCe_is {d c : Int} {A : Option Addr} {n cap : Nat} {r : Bool} (w : World) (hl : n ≤ 2000000) (hr : inV c 0 ((n : Int) - 1) = r) : Calls Try.prog 54 #[.agg #[.int .i64 d, .slice A n cap], .int .i64 c] w fun E w' => E = .returned (.bool r) ∧ Below w.heap.size w w' := by subst hr; exact iCe_any d c A n cap w hl
theorem iDv_is {e : Int} {r : Bool} (w : World) (hr : inV e 0 3 = r) : Calls Try.prog 55 #[.int .i64 e] w fun E w' => E = .returned (.bool r) ∧ w = w' := by subst hr; exact iDv_any e w
set_option maxHeartbeats 4000000 in
theorem iOp_any (e : Int) (w : World) (h0 : 0 ≤ e) (h1 : e ≤ 3) :
    Calls Try.prog 61 #[.int .i64 e] w fun E w' => E = .returned (.int .i64 (opI e)) ∧ w = w' := by
  have he : e = 0 ∨ e = 1 ∨ e = 2 ∨ e = 3 := by omega
  clear h0 h1
  rcases he with rfl | rfl | rfl | rfl
  all_goals
    go_enter Try.func61, Try.ntmps61
    go_wp2
    go_ret
    exact ⟨rfl, rfl⟩
theorem divs {d c : Int} (h : InC d c) : 0 ≤ c % d ∧ c % d ≤ d - 1 ∧ 0 ≤ c / d ∧ c / d ≤ d - 1 ∧ c / d * d = c - c % d ∧ 1 ≤ d ∧ d ≤ 6 ∧ 0 ≤ c ∧ c ≤ 35 := by
  obtain ⟨h0, h1, h2, h3⟩ := h
  have s := (sq_rng h0 h1).2
  have a := Int.emod_nonneg c (show d ≠ 0 by omega)
  have b := Int.emod_lt_of_pos c (show 0 < d by omega)
  have e := Int.mul_ediv_add_emod c d
  have e2 : d * (c / d) = c / d * d := Int.mul_comm _ _
  have q := Int.ediv_nonneg h2 (show 0 ≤ d by omega)
  have q2 : c / d < d := Int.ediv_lt_of_lt_mul (by omega) h3
  omega
set_option maxHeartbeats 4000000 in
theorem iBs0 (d c : Int) (A : Option Addr) (n cap : Nat) (w : World) (hc : InC d c) :
    Calls Try.prog 56 #[.agg #[.int .i64 d, .slice A n cap], .int .i64 c, .int .i64 0] w fun E w' => E = .returned (.int .i64 (nxI d c 0)) ∧ Below w.heap.size w w' := by
  obtain ⟨x0, x1, y0, y1, hm, d0, d1, c0, c1⟩ := divs hc
  by_cases hq : c % d < d - 1
  · have e9 : nxI d c 0 = c + 1 := by simp [nxI, hq]
    rw [e9]
    have hA : inV (c % d + 1) 0 (d - 1) = true := by unfold inV; simp; omega
    have hB9 : inV (c / d) 0 (d - 1) = true := by unfold inV; simp; omega
    have hpr : (c / d) * d + (c % d + 1) = c + 1 := by rw [hm]; omega
    have m0 : 0 ≤ (c / d) * d := Int.mul_nonneg (by omega) (by omega)
    have m1 : (c / d) * d ≤ 100 := by omega
    have HP := Lib.hid hpr
    have HA := Lib.hid hA
    have HB := Lib.hid hB9
    have hdn : ¬ d = 0 := by omega
    clear e9 hpr hA hB9 hm hq hc
    go_enter Try.func56, Try.ntmps56
    go_wp2_with fail
    go_region
    go_wp2_with fail
    refine (iInV_isY _ 0 _ _ _ HA.out).mono ?_; rintro E w' ⟨rfl, rfl⟩
    go_wp2_with fail
    refine (iInV_isY _ 0 _ _ _ HB.out).mono ?_; rintro E w' ⟨rfl, rfl⟩
    go_wp2
    go_ret
    exact ⟨ret_int HP.out, (bel1 _ _).drew⟩
  · have e9 : nxI d c 0 = -1 := by simp [nxI, hq]
    rw [e9]
    have hA : inV (c % d + 1) 0 (d - 1) = false := by unfold inV; simp; omega
    have HA := Lib.hid hA
    have hdn : ¬ d = 0 := by omega
    clear e9 hA hm hq hc
    go_enter Try.func56, Try.ntmps56
    go_wp2_with fail
    go_region
    go_wp2_with fail
    refine (iInV_isY _ 0 _ _ _ HA.out).mono ?_; rintro E w' ⟨rfl, rfl⟩
    go_wp2
    go_ret
    exact ⟨rfl, (bel1 _ _).drew⟩
set_option maxHeartbeats 4000000 in
theorem iBs1 (d c : Int) (A : Option Addr) (n cap : Nat) (w : World) (hc : InC d c) :
    Calls Try.prog 56 #[.agg #[.int .i64 d, .slice A n cap], .int .i64 c, .int .i64 1] w fun E w' => E = .returned (.int .i64 (nxI d c 1)) ∧ Below w.heap.size w w' := by
  obtain ⟨x0, x1, y0, y1, hm, d0, d1, c0, c1⟩ := divs hc
  by_cases hq : c / d < d - 1
  · have e9 : nxI d c 1 = c + d := by simp [nxI, hq]
    rw [e9]
    have hA : inV (c % d) 0 (d - 1) = true := by unfold inV; simp; omega
    have hB9 : inV (c / d + 1) 0 (d - 1) = true := by unfold inV; simp; omega
    have hpr : (c / d + 1) * d + (c % d) = c + d := by rw [Int.add_mul, hm]; omega
    have m0 : 0 ≤ (c / d + 1) * d := Int.mul_nonneg (by omega) (by omega)
    have m1 : (c / d + 1) * d ≤ 100 := by omega
    have HP := Lib.hid hpr
    have HA := Lib.hid hA
    have HB := Lib.hid hB9
    have hdn : ¬ d = 0 := by omega
    clear e9 hpr hA hB9 hm hq hc
    go_enter Try.func56, Try.ntmps56
    go_wp2_with fail
    go_region
    go_wp2_with fail
    refine (iInV_isY _ 0 _ _ _ HA.out).mono ?_; rintro E w' ⟨rfl, rfl⟩
    go_wp2_with fail
    refine (iInV_isY _ 0 _ _ _ HB.out).mono ?_; rintro E w' ⟨rfl, rfl⟩
    go_wp2
    go_ret
    exact ⟨ret_int HP.out, (bel1 _ _).drew⟩
  · have e9 : nxI d c 1 = -1 := by simp [nxI, hq]
    rw [e9]
    have hA : inV (c % d) 0 (d - 1) = true := by unfold inV; simp; omega
    have HA := Lib.hid hA
    have hdn : ¬ d = 0 := by omega
    have hB9 : inV (c / d + 1) 0 (d - 1) = false := by unfold inV; simp; omega
    have HB := Lib.hid hB9
    clear hB9
    clear e9 hA hm hq hc
    go_enter Try.func56, Try.ntmps56
    go_wp2_with fail
    go_region
    go_wp2_with fail
    refine (iInV_isY _ 0 _ _ _ HA.out).mono ?_; rintro E w' ⟨rfl, rfl⟩
    go_wp2_with fail
    refine (iInV_isY _ 0 _ _ _ HB.out).mono ?_; rintro E w' ⟨rfl, rfl⟩
    go_wp2
    go_ret
    exact ⟨rfl, (bel1 _ _).drew⟩
set_option maxHeartbeats 4000000 in
theorem iBs2 (d c : Int) (A : Option Addr) (n cap : Nat) (w : World) (hc : InC d c) :
    Calls Try.prog 56 #[.agg #[.int .i64 d, .slice A n cap], .int .i64 c, .int .i64 2] w fun E w' => E = .returned (.int .i64 (nxI d c 2)) ∧ Below w.heap.size w w' := by
  obtain ⟨x0, x1, y0, y1, hm, d0, d1, c0, c1⟩ := divs hc
  by_cases hq : c % d > 0
  · have e9 : nxI d c 2 = c - 1 := by simp [nxI, hq]
    rw [e9]
    have hA : inV (c % d - 1) 0 (d - 1) = true := by unfold inV; simp; omega
    have hB9 : inV (c / d) 0 (d - 1) = true := by unfold inV; simp; omega
    have hpr : (c / d) * d + (c % d - 1) = c - 1 := by rw [hm]; omega
    have m0 : 0 ≤ (c / d) * d := Int.mul_nonneg (by omega) (by omega)
    have m1 : (c / d) * d ≤ 100 := by omega
    have HP := Lib.hid hpr
    have HA := Lib.hid hA
    have HB := Lib.hid hB9
    have hdn : ¬ d = 0 := by omega
    clear e9 hpr hA hB9 hm hq hc
    go_enter Try.func56, Try.ntmps56
    go_wp2_with fail
    go_region
    go_wp2_with fail
    refine (iInV_isY _ 0 _ _ _ HA.out).mono ?_; rintro E w' ⟨rfl, rfl⟩
    go_wp2_with fail
    refine (iInV_isY _ 0 _ _ _ HB.out).mono ?_; rintro E w' ⟨rfl, rfl⟩
    go_wp2
    go_ret
    exact ⟨ret_int HP.out, (bel1 _ _).drew⟩
  · have e9 : nxI d c 2 = -1 := by simp [nxI, hq]
    rw [e9]
    have hA : inV (c % d - 1) 0 (d - 1) = false := by unfold inV; simp; omega
    have HA := Lib.hid hA
    have hdn : ¬ d = 0 := by omega
    clear e9 hA hm hq hc
    go_enter Try.func56, Try.ntmps56
    go_wp2_with fail
    go_region
    go_wp2_with fail
    refine (iInV_isY _ 0 _ _ _ HA.out).mono ?_; rintro E w' ⟨rfl, rfl⟩
    go_wp2
    go_ret
    exact ⟨rfl, (bel1 _ _).drew⟩
set_option maxHeartbeats 4000000 in
theorem iBs3 (d c : Int) (A : Option Addr) (n cap : Nat) (w : World) (hc : InC d c) :
    Calls Try.prog 56 #[.agg #[.int .i64 d, .slice A n cap], .int .i64 c, .int .i64 3] w fun E w' => E = .returned (.int .i64 (nxI d c 3)) ∧ Below w.heap.size w w' := by
  obtain ⟨x0, x1, y0, y1, hm, d0, d1, c0, c1⟩ := divs hc
  by_cases hq : c / d > 0
  · have e9 : nxI d c 3 = c - d := by simp [nxI, hq]
    rw [e9]
    have hA : inV (c % d) 0 (d - 1) = true := by unfold inV; simp; omega
    have hB9 : inV (c / d - 1) 0 (d - 1) = true := by unfold inV; simp; omega
    have hpr : (c / d - 1) * d + (c % d) = c - d := by rw [Int.sub_mul, hm]; omega
    have m0 : 0 ≤ (c / d - 1) * d := Int.mul_nonneg (by omega) (by omega)
    have m1 : (c / d - 1) * d ≤ 100 := by omega
    have HP := Lib.hid hpr
    have HA := Lib.hid hA
    have HB := Lib.hid hB9
    have hdn : ¬ d = 0 := by omega
    clear e9 hpr hA hB9 hm hq hc
    go_enter Try.func56, Try.ntmps56
    go_wp2_with fail
    go_region
    go_wp2_with fail
    refine (iInV_isY _ 0 _ _ _ HA.out).mono ?_; rintro E w' ⟨rfl, rfl⟩
    go_wp2_with fail
    refine (iInV_isY _ 0 _ _ _ HB.out).mono ?_; rintro E w' ⟨rfl, rfl⟩
    go_wp2
    go_ret
    exact ⟨ret_int HP.out, (bel1 _ _).drew⟩
  · have e9 : nxI d c 3 = -1 := by simp [nxI, hq]
    rw [e9]
    have hA : inV (c % d) 0 (d - 1) = true := by unfold inV; simp; omega
    have HA := Lib.hid hA
    have hdn : ¬ d = 0 := by omega
    have hB9 : inV (c / d - 1) 0 (d - 1) = false := by unfold inV; simp; omega
    have HB := Lib.hid hB9
    clear hB9
    clear e9 hA hm hq hc
    go_enter Try.func56, Try.ntmps56
    go_wp2_with fail
    go_region
    go_wp2_with fail
    refine (iInV_isY _ 0 _ _ _ HA.out).mono ?_; rintro E w' ⟨rfl, rfl⟩
    go_wp2_with fail
    refine (iInV_isY _ 0 _ _ _ HB.out).mono ?_; rintro E w' ⟨rfl, rfl⟩
    go_wp2
    go_ret
    exact ⟨rfl, (bel1 _ _).drew⟩
set_option maxHeartbeats 4000000 in
theorem iBs_any (d c e : Int) (A : Option Addr) (n cap : Nat) (w : World) (hc : InC d c) (h0 : 0 ≤ e) (h1 : e ≤ 3) :
    Calls Try.prog 56 #[.agg #[.int .i64 d, .slice A n cap], .int .i64 c, .int .i64 e] w fun E w' => E = .returned (.int .i64 (nxI d c e)) ∧ Below w.heap.size w w' := by
  have he : e = 0 ∨ e = 1 ∨ e = 2 ∨ e = 3 := by omega
  rcases he with rfl | rfl | rfl | rfl
  · exact iBs0 d c A n cap w hc
  · exact iBs1 d c A n cap w hc
  · exact iBs2 d c A n cap w hc
  · exact iBs3 d c A n cap w hc
set_option maxHeartbeats 4000000 in
theorem sNx0 (d c : Int) (w : World) (hc : InC d c) :
    Calls Try.prog 57 #[.int .i64 d, .int .i64 c, .int .i64 0] w fun E w' => E = .returned (.int .i64 (nxI d c 0)) ∧ w = w' := by
  obtain ⟨x0, x1, y0, y1, hm, d0, d1, c0, c1⟩ := divs hc
  have hdn : ¬ d = 0 := by omega
  by_cases hq : c % d < d - 1
  · have e9 : nxI d c 0 = c + 1 := by simp [nxI, hq]
    rw [e9]
    clear e9 hm hc
    go_enter Try.func57, Try.ntmps57
    go_wp2
    go_ret
    exact ⟨rfl, rfl⟩
  · have e9 : nxI d c 0 = -1 := by simp [nxI, hq]
    rw [e9]
    clear e9 hm hc
    go_enter Try.func57, Try.ntmps57
    go_wp2
    go_ret
    exact ⟨rfl, rfl⟩
set_option maxHeartbeats 4000000 in
theorem sNx1 (d c : Int) (w : World) (hc : InC d c) :
    Calls Try.prog 57 #[.int .i64 d, .int .i64 c, .int .i64 1] w fun E w' => E = .returned (.int .i64 (nxI d c 1)) ∧ w = w' := by
  obtain ⟨x0, x1, y0, y1, hm, d0, d1, c0, c1⟩ := divs hc
  have hdn : ¬ d = 0 := by omega
  by_cases hq : c / d < d - 1
  · have e9 : nxI d c 1 = c + d := by simp [nxI, hq]
    rw [e9]
    clear e9 hm hc
    go_enter Try.func57, Try.ntmps57
    go_wp2
    go_ret
    exact ⟨rfl, rfl⟩
  · have e9 : nxI d c 1 = -1 := by simp [nxI, hq]
    rw [e9]
    clear e9 hm hc
    go_enter Try.func57, Try.ntmps57
    go_wp2
    go_ret
    exact ⟨rfl, rfl⟩
set_option maxHeartbeats 4000000 in
theorem sNx2 (d c : Int) (w : World) (hc : InC d c) :
    Calls Try.prog 57 #[.int .i64 d, .int .i64 c, .int .i64 2] w fun E w' => E = .returned (.int .i64 (nxI d c 2)) ∧ w = w' := by
  obtain ⟨x0, x1, y0, y1, hm, d0, d1, c0, c1⟩ := divs hc
  have hdn : ¬ d = 0 := by omega
  by_cases hq : c % d > 0
  · have e9 : nxI d c 2 = c - 1 := by simp [nxI, hq]
    rw [e9]
    clear e9 hm hc
    go_enter Try.func57, Try.ntmps57
    go_wp2
    go_ret
    exact ⟨rfl, rfl⟩
  · have e9 : nxI d c 2 = -1 := by simp [nxI, hq]
    rw [e9]
    clear e9 hm hc
    go_enter Try.func57, Try.ntmps57
    go_wp2
    go_ret
    exact ⟨rfl, rfl⟩
set_option maxHeartbeats 4000000 in
theorem sNx3 (d c : Int) (w : World) (hc : InC d c) :
    Calls Try.prog 57 #[.int .i64 d, .int .i64 c, .int .i64 3] w fun E w' => E = .returned (.int .i64 (nxI d c 3)) ∧ w = w' := by
  obtain ⟨x0, x1, y0, y1, hm, d0, d1, c0, c1⟩ := divs hc
  have hdn : ¬ d = 0 := by omega
  by_cases hq : c / d > 0
  · have e9 : nxI d c 3 = c - d := by simp [nxI, hq]
    rw [e9]
    clear e9 hm hc
    go_enter Try.func57, Try.ntmps57
    go_wp2
    go_ret
    exact ⟨rfl, rfl⟩
  · have e9 : nxI d c 3 = -1 := by simp [nxI, hq]
    rw [e9]
    clear e9 hm hc
    go_enter Try.func57, Try.ntmps57
    go_wp2
    go_ret
    exact ⟨rfl, rfl⟩
set_option maxHeartbeats 4000000 in
theorem sNx_any (d c e : Int) (w : World) (hc : InC d c) (h0 : 0 ≤ e) (h1 : e ≤ 3) :
    Calls Try.prog 57 #[.int .i64 d, .int .i64 c, .int .i64 e] w fun E w' => E = .returned (.int .i64 (nxI d c e)) ∧ w = w' := by
  have he : e = 0 ∨ e = 1 ∨ e = 2 ∨ e = 3 := by omega
  rcases he with rfl | rfl | rfl | rfl
  · exact sNx0 d c w hc
  · exact sNx1 d c w hc
  · exact sNx2 d c w hc
  · exact sNx3 d c w hc
def ncI (d : Int) (xs : List Int) (c e : Int) : Int := if (cvB d xs && (ceB xs c && drB e)) = true then nxI d c e else -1
theorem nc_no {d c e : Int} {xs : List Int} (h : (cvB d xs && (ceB xs c && drB e)) = false) : ncI d xs c e = -1 := by unfold ncI; rw [h]; rfl
theorem nc_yes {d c e : Int} {xs : List Int} (h1 : cvB d xs = true) (h2 : ceB xs c = true) (h3 : drB e = true) : ncI d xs c e = nxI d c e := by unfold ncI; rw [h1, h2, h3]; rfl
theorem ce_in {d c : Int} {xs : List Int} (h : cvB d xs = true) (hc : ceB xs c = true) : InC d c := by
  unfold ceB at hc; simp only [decide_eq_true_eq] at hc; exact cv_in h hc.1 (by omega)
theorem ce_inV {c : Int} {xs : List Int} {n : Nat} {r : Bool} (hn : xs.length = n) (h : ceB xs c = r) : inV c 0 ((n : Int) - 1) = r := by unfold ceB at h; rw [hn] at h; exact h
theorem dr_inV {e : Int} {r : Bool} (h : drB e = r) : inV e 0 3 = r := h
theorem dr_rng {e : Int} (h : drB e = true) : 0 ≤ e ∧ e ≤ 3 := by unfold drB at h; simpa using h
set_option maxHeartbeats 4000000 in
theorem iNc_any (d : Int) (A : Option Addr) (cap : Nat) (xs : List Int) (c e : Int) {n : Nat} (w : World) (hn : xs.length = n) (h : SRow encNum w A xs) (hl : n ≤ 2000000) :
    Calls Try.prog 17 #[.agg #[.int .i64 d, .slice A n cap], .int .i64 c, .int .i64 e] w fun E w' => E = .returned (.int .i64 (ncI d xs c e)) ∧ Below w.heap.size w w' := by
  cases h1 : cvB d xs
  · rw [nc_no (by rw [h1]; rfl)]
    have H1 := Lib.hid h1
    have HN := Lib.hid hn
    clear h1 hn
    go_enter Try.func17, Try.ntmps17
    go_wp2_with fail
    refine (iCv_is d A cap xs _ HN.out (h.next (bel1 w (.cells #[.int .i64 d, .slice A n cap] 25 (0, 0)))) hl H1.out).mono ?_; rintro E w1 ⟨rfl, hw1⟩
    obtain ⟨hP1, hB1⟩ := ownb hw1
    obtain ⟨p0, p1, f0, f1, zp⟩ := blk2 hP1
    go_wp2
    go_ret
    exact ⟨rfl, hB1⟩
  · cases h2 : ceB xs c
    · rw [nc_no (by rw [h1, h2]; rfl)]
      have H1 := Lib.hid h1
      have H2 := Lib.hid (ce_inV hn h2)
      have HN := Lib.hid hn
      clear h1 h2 hn
      go_enter Try.func17, Try.ntmps17
      go_wp2_with fail
      refine (iCv_is d A cap xs _ HN.out (h.next (bel1 w (.cells #[.int .i64 d, .slice A n cap] 25 (0, 0)))) hl H1.out).mono ?_; rintro E w1 ⟨rfl, hw1⟩
      obtain ⟨hP1, hB1⟩ := ownb hw1
      obtain ⟨p0, p1, f0, f1, zp⟩ := blk2 hP1
      go_wp2_with fail
      refine (iCe_is _ hl H2.out).mono ?_; rintro E w2 ⟨rfl, hw2⟩
      have hP2 := blk_next hP1 hw2
      have hB2 := bel_next hB1 hw2
      clear p0 p1 f0 f1
      obtain ⟨p0, p1, f0, f1, _⟩ := blk2 hP2
      go_wp2
      go_ret
      exact ⟨rfl, hB2⟩
    · cases h3 : drB e
      · rw [nc_no (by rw [h1, h2, h3]; rfl)]
        have H1 := Lib.hid h1
        have H2 := Lib.hid (ce_inV hn h2)
        have H3 := Lib.hid (dr_inV h3)
        have HN := Lib.hid hn
        clear h1 h2 h3 hn
        go_enter Try.func17, Try.ntmps17
        go_wp2_with fail
        refine (iCv_is d A cap xs _ HN.out (h.next (bel1 w (.cells #[.int .i64 d, .slice A n cap] 25 (0, 0)))) hl H1.out).mono ?_; rintro E w1 ⟨rfl, hw1⟩
        obtain ⟨hP1, hB1⟩ := ownb hw1
        obtain ⟨p0, p1, f0, f1, zp⟩ := blk2 hP1
        go_wp2_with fail
        refine (iCe_is _ hl H2.out).mono ?_; rintro E w2 ⟨rfl, hw2⟩
        have hP2 := blk_next hP1 hw2
        have hB2 := bel_next hB1 hw2
        clear p0 p1 f0 f1
        obtain ⟨p0, p1, f0, f1, _⟩ := blk2 hP2
        go_wp2_with fail
        refine (iDv_is _ H3.out).mono ?_; rintro E w' ⟨rfl, rfl⟩
        go_wp2
        go_ret
        exact ⟨rfl, hB2⟩
      · rw [nc_yes h1 h2 h3]
        have HC := Lib.hid (ce_in h1 h2)
        have HE := Lib.hid (dr_rng h3)
        have H1 := Lib.hid h1
        have H2 := Lib.hid (ce_inV hn h2)
        have H3 := Lib.hid (dr_inV h3)
        have HN := Lib.hid hn
        clear h1 h2 h3 hn
        go_enter Try.func17, Try.ntmps17
        go_wp2_with fail
        refine (iCv_is d A cap xs _ HN.out (h.next (bel1 w (.cells #[.int .i64 d, .slice A n cap] 25 (0, 0)))) hl H1.out).mono ?_; rintro E w1 ⟨rfl, hw1⟩
        obtain ⟨hP1, hB1⟩ := ownb hw1
        obtain ⟨p0, p1, f0, f1, zp⟩ := blk2 hP1
        go_wp2_with fail
        refine (iCe_is _ hl H2.out).mono ?_; rintro E w2 ⟨rfl, hw2⟩
        have hP2 := blk_next hP1 hw2
        have hB2 := bel_next hB1 hw2
        clear p0 p1 f0 f1
        obtain ⟨p0, p1, f0, f1, _⟩ := blk2 hP2
        go_wp2_with fail
        refine (iDv_is _ H3.out).mono ?_; rintro E w' ⟨rfl, rfl⟩
        go_wp2_with fail
        refine (iBs_any d c e A n cap _ HC.out HE.out.1 HE.out.2).mono ?_; rintro E w3 ⟨rfl, hw3⟩
        have hB3 := bel_next hB2 hw3
        go_wp2
        go_ret
        exact ⟨rfl, hB3⟩
theorem iNc_is (d : Int) (A : Option Addr) (cap : Nat) (xs : List Int) (c e : Int) {r : Int} {n : Nat} (w : World) (hn : xs.length = n) (h : SRow encNum w A xs) (hl : n ≤ 2000000) (hr : ncI d xs c e = r) : Calls Try.prog 17 #[.agg #[.int .i64 d, .slice A n cap], .int .i64 c, .int .i64 e] w fun E w' => E = .returned (.int .i64 r) ∧ Below w.heap.size w w' := by subst hr; exact iNc_any d A cap xs c e w hn h hl
set_option maxHeartbeats 4000000 in
theorem sNc_any (d : Int) (A : Option Addr) (cap : Nat) (xs : List Int) (c e : Int) {n : Nat} (w : World) (hn : xs.length = n) (h : SRow encNum w A xs) (hl : n ≤ 2000000) :
    Calls Try.prog 18 #[.agg #[.int .i64 d, .slice A n cap], .int .i64 c, .int .i64 e] w fun E w' => E = .returned (.int .i64 (ncI d xs c e)) ∧ Below w.heap.size w w' := by
  cases h1 : cvB d xs
  · rw [nc_no (by rw [h1]; rfl)]
    have H1 := Lib.hid h1
    have HN := Lib.hid hn
    clear h1 hn
    go_enter Try.func18, Try.ntmps18
    go_wp2_with fail
    refine (sCv_is d A cap xs _ HN.out (h.next (bel1 w (.cells #[.int .i64 d, .slice A n cap] 25 (0, 0)))) hl H1.out).mono ?_; rintro E w1 ⟨rfl, hw1⟩
    obtain ⟨hP1, hB1⟩ := ownb hw1
    obtain ⟨p0, p1, f0, f1, zp⟩ := blk2 hP1
    go_wp2
    go_ret
    exact ⟨rfl, hB1⟩
  · cases h2 : ceB xs c
    · rw [nc_no (by rw [h1, h2]; rfl)]
      have H1 := Lib.hid h1
      have H2 := Lib.hid (ce_inV hn h2)
      have HN := Lib.hid hn
      clear h1 h2 hn
      go_enter Try.func18, Try.ntmps18
      go_wp2_with fail
      refine (sCv_is d A cap xs _ HN.out (h.next (bel1 w (.cells #[.int .i64 d, .slice A n cap] 25 (0, 0)))) hl H1.out).mono ?_; rintro E w1 ⟨rfl, hw1⟩
      obtain ⟨hP1, hB1⟩ := ownb hw1
      obtain ⟨p0, p1, f0, f1, zp⟩ := blk2 hP1
      go_wp2_with fail
      refine (l1V_is c 0 _ _ _ H2.out).mono ?_; rintro E w' ⟨rfl, rfl⟩
      go_wp2
      go_ret
      exact ⟨rfl, hB1⟩
    · cases h3 : drB e
      · rw [nc_no (by rw [h1, h2, h3]; rfl)]
        have H1 := Lib.hid h1
        have H2 := Lib.hid (ce_inV hn h2)
        have H3 := Lib.hid (dr_inV h3)
        have HN := Lib.hid hn
        clear h1 h2 h3 hn
        go_enter Try.func18, Try.ntmps18
        go_wp2_with fail
        refine (sCv_is d A cap xs _ HN.out (h.next (bel1 w (.cells #[.int .i64 d, .slice A n cap] 25 (0, 0)))) hl H1.out).mono ?_; rintro E w1 ⟨rfl, hw1⟩
        obtain ⟨hP1, hB1⟩ := ownb hw1
        obtain ⟨p0, p1, f0, f1, zp⟩ := blk2 hP1
        go_wp2_with fail
        refine (l1V_is c 0 _ _ _ H2.out).mono ?_; rintro E w' ⟨rfl, rfl⟩
        go_wp2_with fail
        refine (l1V_is e 0 3 _ _ H3.out).mono ?_; rintro E w' ⟨rfl, rfl⟩
        go_wp2
        go_ret
        exact ⟨rfl, hB1⟩
      · rw [nc_yes h1 h2 h3]
        have HC := Lib.hid (ce_in h1 h2)
        have HE := Lib.hid (dr_rng h3)
        have H1 := Lib.hid h1
        have H2 := Lib.hid (ce_inV hn h2)
        have H3 := Lib.hid (dr_inV h3)
        have HN := Lib.hid hn
        clear h1 h2 h3 hn
        go_enter Try.func18, Try.ntmps18
        go_wp2_with fail
        refine (sCv_is d A cap xs _ HN.out (h.next (bel1 w (.cells #[.int .i64 d, .slice A n cap] 25 (0, 0)))) hl H1.out).mono ?_; rintro E w1 ⟨rfl, hw1⟩
        obtain ⟨hP1, hB1⟩ := ownb hw1
        obtain ⟨p0, p1, f0, f1, zp⟩ := blk2 hP1
        go_wp2_with fail
        refine (l1V_is c 0 _ _ _ H2.out).mono ?_; rintro E w' ⟨rfl, rfl⟩
        go_wp2_with fail
        refine (l1V_is e 0 3 _ _ H3.out).mono ?_; rintro E w' ⟨rfl, rfl⟩
        go_wp2_with fail
        refine (sNx_any d c e _ HC.out HE.out.1 HE.out.2).mono ?_; rintro E w' ⟨rfl, rfl⟩
        go_wp2
        go_ret
        exact ⟨rfl, hB1⟩
theorem sNc_is (d : Int) (A : Option Addr) (cap : Nat) (xs : List Int) (c e : Int) {r : Int} {n : Nat} (w : World) (hn : xs.length = n) (h : SRow encNum w A xs) (hl : n ≤ 2000000) (hr : ncI d xs c e = r) : Calls Try.prog 18 #[.agg #[.int .i64 d, .slice A n cap], .int .i64 c, .int .i64 e] w fun E w' => E = .returned (.int .i64 r) ∧ Below w.heap.size w w' := by subst hr; exact sNc_any d A cap xs c e w hn h hl
set_option maxHeartbeats 4000000 in
theorem sOk_any (d : Int) (A : Option Addr) (cap : Nat) (xs : List Int) (e f : Int) {n : Nat} (w : World) (hn : xs.length = n) (h : SRow encNum w A xs) (hl : n ≤ 2000000) :
    Calls Try.prog 59 #[.agg #[.int .i64 d, .slice A n cap], .int .i64 e, .int .i64 f] w fun E w' => E = .returned (.bool (okB d xs e f)) ∧ Below w.heap.size w w' := by
  cases h1 : cvB d xs
  · have HF : Hid (okB d xs e f = false) := by show _ = _; unfold okB; rw [h1]; rfl
    have H1 := Lib.hid h1
    have HN := Lib.hid hn
    clear h1 hn
    go_enter Try.func59, Try.ntmps59
    go_wp2_with fail
    refine (sCv_is d A cap xs _ HN.out (h.next (bel1 w (.cells #[.int .i64 d, .slice A n cap] 25 (0, 0)))) hl H1.out).mono ?_; rintro E w1 ⟨rfl, hw1⟩
    obtain ⟨hP1, hB1⟩ := ownb hw1
    go_wp2
    go_ret
    exact ⟨ret_bool HF.out.symm, hB1⟩
  · cases h2 : drB e
    · have HF : Hid (okB d xs e f = false) := by show _ = _; unfold okB; rw [h1, h2]; rfl
      have H1 := Lib.hid h1
      have H2 := Lib.hid (dr_inV h2)
      have HN := Lib.hid hn
      clear h1 h2 hn
      go_enter Try.func59, Try.ntmps59
      go_wp2_with fail
      refine (sCv_is d A cap xs _ HN.out (h.next (bel1 w (.cells #[.int .i64 d, .slice A n cap] 25 (0, 0)))) hl H1.out).mono ?_; rintro E w1 ⟨rfl, hw1⟩
      obtain ⟨hP1, hB1⟩ := ownb hw1
      go_wp2_with fail
      refine (l1V_is e 0 3 _ _ H2.out).mono ?_; rintro E w' ⟨rfl, rfl⟩
      go_wp2
      go_ret
      exact ⟨ret_bool HF.out.symm, hB1⟩
    · obtain ⟨v, h3⟩ : ∃ v, flB f = v := ⟨_, rfl⟩
      have HF : Hid (okB d xs e f = v) := by show _ = _; unfold okB; rw [h1, h2, h3]; rfl
      have H1 := Lib.hid h1
      have H2 := Lib.hid (dr_inV h2)
      have H3 : Hid (inV f 0 5 = v) := h3
      have HN := Lib.hid hn
      clear h1 h2 h3 hn
      go_enter Try.func59, Try.ntmps59
      go_wp2_with fail
      refine (sCv_is d A cap xs _ HN.out (h.next (bel1 w (.cells #[.int .i64 d, .slice A n cap] 25 (0, 0)))) hl H1.out).mono ?_; rintro E w1 ⟨rfl, hw1⟩
      obtain ⟨hP1, hB1⟩ := ownb hw1
      go_wp2_with fail
      refine (l1V_is e 0 3 _ _ H2.out).mono ?_; rintro E w' ⟨rfl, rfl⟩
      go_wp2_with fail
      refine (l1V_is f 0 5 _ _ H3.out).mono ?_; rintro E w' ⟨rfl, rfl⟩
      go_wp2
      go_ret
      exact ⟨ret_bool HF.out.symm, hB1⟩
theorem sOk_is (d : Int) (A : Option Addr) (cap : Nat) (xs : List Int) (e f : Int) {r : Bool} {n : Nat} (w : World) (hn : xs.length = n) (h : SRow encNum w A xs) (hl : n ≤ 2000000) (hr : okB d xs e f = r) : Calls Try.prog 59 #[.agg #[.int .i64 d, .slice A n cap], .int .i64 e, .int .i64 f] w fun E w' => E = .returned (.bool r) ∧ Below w.heap.size w w' := by subst hr; exact sOk_any d A cap xs e f w hn h hl
end Go.Proofs.Ytidppabconifkaa
