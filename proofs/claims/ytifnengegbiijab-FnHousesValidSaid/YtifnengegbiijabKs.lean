/- Contracts of chapter 6: houses. -/
import Derived.Test.YtifnengegbiijabVs
import Derived.Test.YtifnengegbiijabGHouse
import Derived.Test.YtifnengegbiijabKm
namespace Go.Proofs.Ytifnengegbiijab
open Go Go.ChangeShapes Go.WideShapes Go.ChangeAt Go.RowKit
set_option linter.unusedSimpArgs false
set_option linter.unusedVariables false

set_option maxHeartbeats 4000000 in
theorem iHV_any (f t h : Int) (w : World) :
    Calls Try.prog 45 #[.agg #[.int .i64 f, .int .i64 t, .int .i64 h]] w fun E w' => E = .returned (.bool (hvB f t h)) ∧ Below w.heap.size w w' := by
  go_enter Try.func45, Try.ntmps45
  go_wp2_with (go_at_call 54; refine (iInV_any _ _ _ _).mono ?_; rintro E w' ⟨rfl, rfl⟩)
  all_goals go_ret
  all_goals exact ⟨ret_bool (by first | (simp_all [hvB, inV]; done) | (rw [Bool.eq_iff_iff]; simp_all [hvB, inV]; omega)), bel1 _ _⟩
theorem iHV_is {f t h : Int} {r : Bool} (w : World) (h_ : hvB f t h = r) : Calls Try.prog 45 #[.agg #[.int .i64 f, .int .i64 t, .int .i64 h]] w fun E w' => E = .returned (.bool r) ∧ Below w.heap.size w w' := by subst h_; exact iHV_any f t h w
set_option maxHeartbeats 4000000 in
theorem iAllHouse (A : Option Addr) (cap : Nat) (xs : List VHouse) {r : Bool} {n : Nat} (w : World) (hn : xs.length = n) (h : SRow encHouse w A xs) (hl : n ≤ 2000000) (hr : xs.all hvV = r) :
    Calls Try.prog 44 #[.slice A n cap, .func (.func 45) #[] #[]] w fun E w' => E = .returned (.bool r) ∧ Below w.heap.size w w' := by
  subst hr
  have HN := Lib.hid hn
  clear hn
  go_enter Try.func44, Try.ntmps44
  go_wp2_with fail
  go_loopw [9] (fun v wr => ∃ k : Nat, v = .int .i64 k ∧ k ≤ n ∧ Hid ((xs.take k).all hvV = true) ∧ Below w.heap.size w wr) (fun v _ => (n - intOf v).toNat)
  case atStart => exact ⟨0, rfl, by omega, (by show _ = _; rfl), Below.refl _ _⟩
  case round =>
    obtain ⟨k, rfl, k1, HA, hB⟩ := hrel
    by_cases hlt : k < n
    · have hk : k < xs.length := by rw [HN.out]; exact hlt
      have hki : (k : Int) < (n : Int) := by omega
      obtain ⟨b, off, rfl, hb, c0, c1, c2⟩ := rowHouse (h.next hB) hk
      obtain ⟨v, hv⟩ : ∃ v, hvV xs[k] = v := ⟨_, rfl⟩
      have HV := Lib.hid hv
      clear hv
      go_wp2_with fail
      refine (iHV_is _ HV.out).mono ?_; rintro E w1 ⟨rfl, hw1⟩
      have hB1 := bel_next (hB.alloc hB.size _) hw1
      cases v
      · go_wp2_with fail
        go_ret
        exact ⟨ret_bool (alK_no hk HV.out).symm, hB1⟩
      · go_wp2_with fail
        go_roundw
        case rel => exact ⟨k + 1, by go_num, by omega, Lib.hid (alK_step hk HA.out HV.out), hB1⟩
        case measure => simp [intOf]; omega
    · have hki : ¬ (k : Int) < (n : Int) := by omega
      go_wp2_with fail
      go_ret
      exact ⟨ret_bool (alK_yes HN.out (by omega) HA.out).symm, hB⟩
set_option maxHeartbeats 4000000 in
theorem iHs_any (A : Option Addr) (cap : Nat) (xs : List VHouse) {n : Nat} (w : World) (hn : xs.length = n) (h : SRow encHouse w A xs) (hl : n ≤ 2000000) :
    Calls Try.prog 19 #[.slice A n cap] w fun E w' => E = .returned (.bool (hsB xs)) ∧ Below w.heap.size w w' := by
  by_cases h6 : n ≤ 6
  · have h6i : (n : Int) ≤ 6 := by omega
    obtain ⟨v, hv⟩ : ∃ v, xs.all hvV = v := ⟨_, rfl⟩
    have e : hsB xs = v := by unfold hsB; rw [hn, hv]; simp [h6]
    have HE := Lib.hid e
    have HV := Lib.hid hv
    have HN := Lib.hid hn
    clear e hv hn
    go_enter Try.func19, Try.ntmps19
    go_wp2_with fail
    refine (iAllHouse A cap xs _ HN.out h hl HV.out).mono ?_; rintro E w1 ⟨rfl, hw1⟩
    go_wp2
    go_ret
    exact ⟨ret_bool HE.out.symm, hw1⟩
  · have h6i : ¬ (n : Int) ≤ 6 := by omega
    have e : hsB xs = false := by unfold hsB; rw [hn]; simp [h6]
    rw [e]
    clear e hn h
    go_enter Try.func19, Try.ntmps19
    go_wp2
    go_ret
    exact ⟨ret_bool rfl, Below.refl _ _⟩
set_option maxHeartbeats 4000000 in
theorem sHs_any (A : Option Addr) (cap : Nat) (xs : List VHouse) {n : Nat} (w : World) (hn : xs.length = n) (h : SRow encHouse w A xs) (hl : n ≤ 2000000) :
    Calls Try.prog 20 #[.slice A n cap] w fun E w' => E = .returned (.bool (hsB xs)) ∧ Below w.heap.size w w' := by
  have HN := Lib.hid hn
  clear hn
  go_enter Try.func20, Try.ntmps20
  go_wp2_with fail
  go_loopw [3] (fun v wr => ∃ k : Nat, v = .int .i64 k ∧ k ≤ n ∧ Hid ((xs.take k).all hvV = true) ∧ Below w.heap.size w wr) (fun v _ => (n - intOf v).toNat)
  case atStart => exact ⟨0, rfl, by omega, (by show _ = _; rfl), Below.refl _ _⟩
  case round =>
    obtain ⟨k, rfl, k1, HA, hB⟩ := hrel
    by_cases hlt : k < n
    · have hk : k < xs.length := by rw [HN.out]; exact hlt
      have hki : (k : Int) < (n : Int) := by omega
      obtain ⟨b, off, rfl, hb, c0, c1, c2⟩ := rowHouse (h.next hB) hk
      have hv0 : hvV xs[k] = hvB xs[k].1 xs[k].2.1 xs[k].2.2 := rfl
      revert c0 c1 c2 hv0
      generalize xs[k].1 = f
      generalize xs[k].2.1 = t
      generalize xs[k].2.2 = u
      intro c0 c1 c2 hv0
      have HV := Lib.hid hv0
      clear hv0
      by_cases ht : 1 ≤ t ∧ t ≤ 40
      · obtain ⟨ht0, ht1⟩ := ht
        go_wp2_with (go_at_call 46; refine (l1V_any _ _ _ _).mono ?_; rintro E w' ⟨rfl, rfl⟩)
        all_goals first
          | (go_ret; exact ⟨ret_bool (by unfold hsB; rw [alK_no hk (by rw [HV.out]; simp_all [hvB, inV]; try omega)]; simp), by first | exact hB.alloc hB.size _ | exact hB⟩)
          | (go_roundw; (case rel => exact ⟨k + 1, by go_num, by omega, Lib.hid (alK_step hk HA.out (by rw [HV.out]; simp_all [hvB, inV]; try omega)), hB.alloc hB.size _⟩); (case measure => simp [intOf]; omega))
      · have hf : inV t 1 40 = false := by unfold inV; exact decide_eq_false ht
        have hg : hvB f t u = false := by unfold hvB; exact decide_eq_false (by omega)
        clear ht
        have HF := Lib.hid hf
        have HG := Lib.hid hg
        clear hf hg
        go_wp2_with (go_at_call 46; first | ((with_reducible refine (l1V_is t 1 40 _ _ HF.out).mono ?_); rintro E w' ⟨rfl, rfl⟩) | (refine (l1V_any _ _ _ _).mono ?_; rintro E w' ⟨rfl, rfl⟩))
        all_goals (go_ret; exact ⟨ret_bool (by unfold hsB; rw [alK_no hk (by rw [HV.out, HG.out])]; simp), hB.alloc hB.size _⟩)
    · have hki : ¬ (k : Int) < (n : Int) := by omega
      have HX : Hid (xs.all hvV = true) := alK_yes HN.out (by omega) HA.out
      clear HA
      go_wp2_with fail
      go_ret
      exact ⟨ret_bool (by unfold hsB; rw [HX.out, HN.out]; rw [Bool.eq_iff_iff]; simp; try omega), hB⟩
theorem iHs_is (A : Option Addr) (cap : Nat) (xs : List VHouse) {r : Bool} {n : Nat} (w : World) (hn : xs.length = n) (h : SRow encHouse w A xs) (hl : n ≤ 2000000) (hr : hsB xs = r) : Calls Try.prog 19 #[.slice A n cap] w fun E w' => E = .returned (.bool r) ∧ Below w.heap.size w w' := by subst hr; exact iHs_any A cap xs w hn h hl
theorem sHs_is (A : Option Addr) (cap : Nat) (xs : List VHouse) {r : Bool} {n : Nat} (w : World) (hn : xs.length = n) (h : SRow encHouse w A xs) (hl : n ≤ 2000000) (hr : hsB xs = r) : Calls Try.prog 20 #[.slice A n cap] w fun E w' => E = .returned (.bool r) ∧ Below w.heap.size w w' := by subst hr; exact sHs_any A cap xs w hn h hl
theorem atH_step {xs : List VHouse} {k : Nat} (hk : k < xs.length) (p : Int) : atH (xs.take (k + 1)) p = upH p (atH (xs.take k) p) xs[k] := by
  rw [List.take_succ_eq_append_getElem hk, atH_snoc]
theorem atH_end {xs : List VHouse} {k n : Nat} (hn : xs.length = n) (hk : n ≤ k) (p : Int) : atH (xs.take k) p = atH xs p := by rw [List.take_of_length_le (by omega)]
set_option maxHeartbeats 4000000 in
theorem iHa_any (A : Option Addr) (cap : Nat) (xs : List VHouse) (p : Int) {n : Nat} (w : World) (hn : xs.length = n) (h : SRow encHouse w A xs) (hl : n ≤ 2000000) :
    Calls Try.prog 22 #[.slice A n cap, .int .i64 p] w fun E w' => E = .returned (.int .i64 (haI xs p)) ∧ Below w.heap.size w w' := by
  cases hv : hsB xs
  · have e : haI xs p = 0 := by unfold haI; rw [hv]; rfl
    rw [e]
    have HV := Lib.hid hv
    clear hv e
    go_enter Try.func22, Try.ntmps22
    go_wp2_with fail
    refine (iHs_is A cap xs _ hn h hl HV.out).mono ?_; rintro E w1 ⟨rfl, hw1⟩
    go_wp2
    go_ret
    exact ⟨rfl, hw1⟩
  · have e : haI xs p = atH xs p := by unfold haI; rw [hv]; rfl
    rw [e]
    have HV0 := Lib.hid hv
    clear hv e
    have HN := Lib.hid hn
    clear hn
    go_enter Try.func22, Try.ntmps22
    go_wp2_with fail
    refine (iHs_is A cap xs _ HN.out h hl HV0.out).mono ?_; rintro E w1 ⟨rfl, hB1⟩
    go_wp2_with fail
    go_loopw [5, 13] (fun s v wr => ∃ k : Nat, v = .int .i64 k ∧ k ≤ n ∧ s = .int .i64 (atH (xs.take k) p) ∧ Below w.heap.size w wr) (fun _ v _ => (n - intOf v).toNat)
    case atStart => exact ⟨0, rfl, by omega, rfl, hB1⟩
    case round =>
      obtain ⟨k, rfl, k1, rfl, hB⟩ := hrel
      by_cases hlt : k < n
      · have hk : k < xs.length := by rw [HN.out]; exact hlt
        have hki : (k : Int) < (n : Int) := by omega
        obtain ⟨b, off, rfl, hb, c0, c1, c2⟩ := rowHouse (h.next hB) hk
        have hv0 : atH (xs.take (k + 1)) p = upH p (atH (xs.take k) p) (xs[k].1, xs[k].2.1, xs[k].2.2) := atH_step hk p
        revert c0 c1 c2 hv0
        generalize xs[k].1 = f
        generalize xs[k].2.1 = t
        generalize xs[k].2.2 = u
        generalize atH (xs.take k) p = q
        intro c0 c1 c2 hv0
        have HV := Lib.hid hv0
        clear hv0
        by_cases h1 : f ≤ p
        · by_cases h2 : p < t
          · by_cases h3 : q < u
            · have e := HV.out.trans (upH_in1 h1 h2 h3)
              have HE := Lib.hid e
              clear e
              go_wp2_with fail
              go_roundw
              case rel => exact ⟨k + 1, by go_num, by omega, by rw [HE.out], hB.alloc hB.size _⟩
              case measure => simp [intOf]; omega
            · have e := HV.out.trans (upH_in2 h1 h2 h3)
              have HE := Lib.hid e
              clear e
              go_wp2_with fail
              go_roundw
              case rel => exact ⟨k + 1, by go_num, by omega, by rw [HE.out], hB.alloc hB.size _⟩
              case measure => simp [intOf]; omega
          · have e := HV.out.trans (upH_out (fun c => h2 c.2))
            have HE := Lib.hid e
            clear e
            go_wp2_with fail
            go_roundw
            case rel => exact ⟨k + 1, by go_num, by omega, by rw [HE.out], hB.alloc hB.size _⟩
            case measure => simp [intOf]; omega
        · have e := HV.out.trans (upH_out (fun c => h1 c.1))
          have HE := Lib.hid e
          clear e
          go_wp2_with fail
          go_roundw
          case rel => exact ⟨k + 1, by go_num, by omega, by rw [HE.out], hB.alloc hB.size _⟩
          case measure => simp [intOf]; omega
      · have hki : ¬ (k : Int) < (n : Int) := by omega
        go_wp2_with fail
        go_ret
        exact ⟨ret_int (atH_end HN.out (by omega) p), hB⟩
set_option maxHeartbeats 4000000 in
theorem sHa_any (A : Option Addr) (cap : Nat) (xs : List VHouse) (p : Int) {n : Nat} (w : World) (hn : xs.length = n) (h : SRow encHouse w A xs) (hl : n ≤ 2000000) :
    Calls Try.prog 23 #[.slice A n cap, .int .i64 p] w fun E w' => E = .returned (.int .i64 (haI xs p)) ∧ Below w.heap.size w w' := by
  cases hv : hsB xs
  · have e : haI xs p = 0 := by unfold haI; rw [hv]; rfl
    rw [e]
    have HV0 := Lib.hid hv
    clear hv e
    have HN := Lib.hid hn
    clear hn
    go_enter Try.func23, Try.ntmps23
    go_wp2_with fail
    go_loopw [5, 6] (fun s v wr => ∃ k : Nat, v = .int .i64 k ∧ k ≤ 0 ∧ s = .int .i64 (atH (xs.take k) p) ∧ Below w.heap.size w wr) (fun _ v _ => (n - intOf v).toNat)
    case atStart => exact ⟨0, rfl, by omega, rfl, Below.refl _ _⟩
    case round =>
      obtain ⟨k, rfl, k1, rfl, hB⟩ := hrel
      obtain rfl : k = 0 := by omega
      by_cases hlt : 0 < n
      · have hki : (0 : Int) < (n : Int) := by omega
        go_wp2_with fail
        refine (sHs_is A cap xs _ HN.out (h.next hB) hl HV0.out).mono ?_; rintro E w1 ⟨rfl, hw1⟩
        have hB1 := bel_next hB hw1
        go_wp2
        go_ret
        exact ⟨ret_int (by simp [atH_nil]), hB1⟩
      · have hki : ¬ (0 : Int) < (n : Int) := by omega
        go_wp2_with fail
        go_ret
        exact ⟨ret_int (by simp [atH_nil]), hB⟩
  · have e : haI xs p = atH xs p := by unfold haI; rw [hv]; rfl
    rw [e]
    have HV0 := Lib.hid hv
    clear hv e
    have HN := Lib.hid hn
    clear hn
    go_enter Try.func23, Try.ntmps23
    go_wp2_with fail
    go_loopw [5, 6] (fun s v wr => ∃ k : Nat, v = .int .i64 k ∧ k ≤ n ∧ s = .int .i64 (atH (xs.take k) p) ∧ Below w.heap.size w wr) (fun _ v _ => (n - intOf v).toNat)
    case atStart => exact ⟨0, rfl, by omega, rfl, Below.refl _ _⟩
    case round =>
      obtain ⟨k, rfl, k1, rfl, hB⟩ := hrel
      by_cases hlt : k < n
      · have hk : k < xs.length := by rw [HN.out]; exact hlt
        have hki : (k : Int) < (n : Int) := by omega
        go_wp2_with fail
        refine (sHs_is A cap xs _ HN.out (h.next hB) hl HV0.out).mono ?_; rintro E w1 ⟨rfl, hw1⟩
        have hB1 := bel_next hB hw1
        obtain ⟨b, off, rfl, hb, c0, c1, c2⟩ := rowHouse (h.next hB1) hk
        have hv0 : atH (xs.take (k + 1)) p = upH p (atH (xs.take k) p) (xs[k].1, xs[k].2.1, xs[k].2.2) := atH_step hk p
        revert c0 c1 c2 hv0
        generalize xs[k].1 = f
        generalize xs[k].2.1 = t
        generalize xs[k].2.2 = u
        generalize atH (xs.take k) p = q
        intro c0 c1 c2 hv0
        have HV := Lib.hid hv0
        clear hv0
        by_cases h1 : f ≤ p
        · by_cases h2 : p < t
          · by_cases h3 : q < u
            · have e := HV.out.trans (upH_in1 h1 h2 h3)
              have HE := Lib.hid e
              clear e
              go_wp2_with fail
              go_roundw
              case rel => exact ⟨k + 1, by go_num, by omega, by rw [HE.out], hB1⟩
              case measure => simp [intOf]; omega
            · have e := HV.out.trans (upH_in2 h1 h2 h3)
              have HE := Lib.hid e
              clear e
              go_wp2_with fail
              go_roundw
              case rel => exact ⟨k + 1, by go_num, by omega, by rw [HE.out], hB1⟩
              case measure => simp [intOf]; omega
          · have e := HV.out.trans (upH_out (fun c => h2 c.2))
            have HE := Lib.hid e
            clear e
            go_wp2_with fail
            go_roundw
            case rel => exact ⟨k + 1, by go_num, by omega, by rw [HE.out], hB1⟩
            case measure => simp [intOf]; omega
        · have e := HV.out.trans (upH_out (fun c => h1 c.1))
          have HE := Lib.hid e
          clear e
          go_wp2_with fail
          go_roundw
          case rel => exact ⟨k + 1, by go_num, by omega, by rw [HE.out], hB1⟩
          case measure => simp [intOf]; omega
      · have hki : ¬ (k : Int) < (n : Int) := by omega
        go_wp2_with fail
        go_ret
        exact ⟨ret_int (atH_end HN.out (by omega) p), hB⟩
theorem iHa_is (A : Option Addr) (cap : Nat) (xs : List VHouse) {p r : Int} {n : Nat} (w : World) (hn : xs.length = n) (h : SRow encHouse w A xs) (hl : n ≤ 2000000) (hr : haI xs p = r) : Calls Try.prog 22 #[.slice A n cap, .int .i64 p] w fun E w' => E = .returned (.int .i64 r) ∧ Below w.heap.size w w' := by subst hr; exact iHa_any A cap xs p w hn h hl
theorem sHa_is (A : Option Addr) (cap : Nat) (xs : List VHouse) {p r : Int} {n : Nat} (w : World) (hn : xs.length = n) (h : SRow encHouse w A xs) (hl : n ≤ 2000000) (hr : haI xs p = r) : Calls Try.prog 23 #[.slice A n cap, .int .i64 p] w fun E w' => E = .returned (.int .i64 r) ∧ Below w.heap.size w w' := by subst hr; exact sHa_any A cap xs p w hn h hl
end Go.Proofs.Ytifnengegbiijab
