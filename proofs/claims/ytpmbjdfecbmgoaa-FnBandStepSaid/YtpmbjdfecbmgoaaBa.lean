/- Contracts of chapter 8: bands, lights. -/
import Derived.Test.YtpmbjdfecbmgoaaZv
import Derived.Test.YtpmbjdfecbmgoaaGNum
import Derived.Test.YtpmbjdfecbmgoaaBm
namespace Go.Proofs.Ytpmbjdfecbmgoaa
open Go Go.ChangeShapes Go.WideShapes Go.ChangeAt Go.RowKit
set_option linter.unusedSimpArgs false
set_option linter.unusedVariables false

set_option maxHeartbeats 4000000 in
theorem iBd_any (lo hi : Int) (w : World) :
    Calls Try.prog 13 #[.agg #[.int .i64 lo, .int .i64 hi]] w fun E w' => E = .returned (.bool (bdB lo hi)) ∧ Below w.heap.size w w' := by
  go_enter Try.func13, Try.ntmps13
  go_wp2
  all_goals go_ret
  all_goals exact ⟨ret_bool (by first | (simp_all [bdB]; done) | (rw [Bool.eq_iff_iff]; simp_all [bdB]; omega)), bel1 _ _⟩
set_option maxHeartbeats 4000000 in
theorem sBd_any (lo hi : Int) (w : World) :
    Calls Try.prog 14 #[.agg #[.int .i64 lo, .int .i64 hi]] w fun E w' => E = .returned (.bool (bdB lo hi)) ∧ Below w.heap.size w w' := by
  by_cases hh : 1 ≤ hi ∧ hi ≤ 100
  · obtain ⟨h1, h2⟩ := hh
    go_enter Try.func14, Try.ntmps14
    go_wp2_with (go_at_call 43; refine (sIn7 _ _ _ _).mono ?_; rintro E w' ⟨rfl, rfl⟩)
    all_goals go_ret
    all_goals exact ⟨ret_bool (by first | (simp_all [bdB, inV]; done) | (rw [Bool.eq_iff_iff]; simp_all [bdB, inV]; omega)), bel1 _ _⟩
  · have hf : bdB lo hi = false := by unfold bdB; exact decide_eq_false (by omega)
    have hg : inV hi 1 100 = false := by unfold inV; exact decide_eq_false (by omega)
    have HF := Lib.hid hf
    have HG := Lib.hid hg
    clear hf hg hh
    go_enter Try.func14, Try.ntmps14
    go_wp2_with (go_at_call 43; first | ((with_reducible refine (sIn7_is _ HG.out).mono ?_); rintro E w' ⟨rfl, rfl⟩) | (refine (sIn7 _ _ _ _).mono ?_; rintro E w' ⟨rfl, rfl⟩))
    all_goals go_ret
    all_goals exact ⟨ret_bool HF.out.symm, bel1 _ _⟩
theorem iBd_is {lo hi : Int} {r : Bool} (w : World) (h_ : bdB lo hi = r) : Calls Try.prog 13 #[.agg #[.int .i64 lo, .int .i64 hi]] w fun E w' => E = .returned (.bool r) ∧ Below w.heap.size w w' := by subst h_; exact iBd_any lo hi w
theorem sBd_is {lo hi : Int} {r : Bool} (w : World) (h_ : bdB lo hi = r) : Calls Try.prog 14 #[.agg #[.int .i64 lo, .int .i64 hi]] w fun E w' => E = .returned (.bool r) ∧ Below w.heap.size w w' := by subst h_; exact sBd_any lo hi w
set_option maxHeartbeats 4000000 in
theorem iLv8_any (x : Int) (w : World) :
    Calls Try.prog 47 #[.int .i64 x] w fun E w' => E = .returned (.bool (ltV x)) ∧ w = w' := by
  go_enter Try.func47, Try.ntmps47
  go_wp2_with (go_at_call 53; refine (iIn7 _ _ _ _).mono ?_; rintro E w' ⟨rfl, rfl⟩)
  go_ret
  exact ⟨ret_bool rfl, rfl⟩
theorem iLv8_is {x : Int} {r : Bool} (w : World) (h_ : ltV x = r) : Calls Try.prog 47 #[.int .i64 x] w fun E w' => E = .returned (.bool r) ∧ w = w' := by subst h_; exact iLv8_any x w
theorem iLv8_b {x : Int} {r : Bool} (w : World) (h_ : ltV x = r) : Calls Try.prog 47 #[.int .i64 x] w fun E w' => E = .returned (.bool r) ∧ Below w.heap.size w w' := by subst h_; exact (iLv8_any x w).mono fun _ _ h => ⟨h.1, h.2 ▸ Below.refl _ _⟩
set_option maxHeartbeats 4000000 in
theorem iAllNum8 (A : Option Addr) (cap : Nat) (xs : List Int) {r : Bool} {n : Nat} (w : World) (hn : xs.length = n) (h : SRow encNum w A xs) (hl : n ≤ 2000000) (hr : xs.all ltV = r) :
    Calls Try.prog 46 #[.slice A n cap, .func (.func 47) #[] #[]] w fun E w' => E = .returned (.bool r) ∧ Below w.heap.size w w' := by
  subst hr
  have HN := Lib.hid hn
  clear hn
  go_enter Try.func46, Try.ntmps46
  go_wp2_with fail
  go_loopw [9] (fun v wr => ∃ k : Nat, v = .int .i64 k ∧ k ≤ n ∧ Hid ((xs.take k).all ltV = true) ∧ Below w.heap.size w wr) (fun v _ => (n - intOf v).toNat)
  case atStart => exact ⟨0, rfl, by omega, (by show _ = _; rfl), Below.refl _ _⟩
  case round =>
    obtain ⟨k, rfl, k1, HA, hB⟩ := hrel
    by_cases hlt : k < n
    · have hk : k < xs.length := by rw [HN.out]; exact hlt
      have hki : (k : Int) < (n : Int) := by omega
      obtain ⟨b, off, rfl, hb, c0⟩ := rowNum (h.next hB) hk
      obtain ⟨v, hv⟩ : ∃ v, ltV xs[k] = v := ⟨_, rfl⟩
      have HV := Lib.hid hv
      clear hv
      go_wp2_with fail
      refine (iLv8_b _ HV.out).mono ?_; rintro E w1 ⟨rfl, hw1⟩
      have hB1 := bel_next hB hw1
      cases v
      · go_wp2_with fail
        go_ret
        exact ⟨ret_bool (al7_no hk HV.out).symm, hB1⟩
      · go_wp2_with fail
        go_roundw
        case rel => exact ⟨k + 1, by go_num, by omega, Lib.hid (al7_step hk HA.out HV.out), hB1⟩
        case measure => simp [intOf]; omega
    · have hki : ¬ (k : Int) < (n : Int) := by omega
      go_wp2_with fail
      go_ret
      exact ⟨ret_bool (al7_yes HN.out (by omega) HA.out).symm, hB⟩
set_option maxHeartbeats 4000000 in
theorem iLt_is (A : Option Addr) (cap : Nat) (xs : List Int) {n : Nat} {r : Bool} (w : World) (hn : xs.length = n) (h : SRow encNum w A xs) (hl : n ≤ 2000000) (hr : ltB xs = r) :
    Calls Try.prog 17 #[.slice A n cap] w fun E w' => E = .returned (.bool r) ∧ Below w.heap.size w w' := by
  subst hr
  by_cases h6 : n ≤ 60
  · have h6i : (n : Int) ≤ 60 := by omega
    obtain ⟨v, hv⟩ : ∃ v, xs.all ltV = v := ⟨_, rfl⟩
    have e : ltB xs = v := by unfold ltB; rw [hn, hv]; simp [h6]
    have HE := Lib.hid e
    have HV := Lib.hid hv
    have HN := Lib.hid hn
    clear e hv hn
    go_enter Try.func17, Try.ntmps17
    go_wp2_with fail
    refine (iAllNum8 A cap xs _ HN.out h hl HV.out).mono ?_; rintro E w1 ⟨rfl, hw1⟩
    go_wp2
    go_ret
    exact ⟨ret_bool HE.out.symm, hw1⟩
  · have h6i : ¬ (n : Int) ≤ 60 := by omega
    have e : ltB xs = false := by unfold ltB; rw [hn]; simp [h6]
    rw [e]
    clear e hn h
    go_enter Try.func17, Try.ntmps17
    go_wp2
    go_ret
    exact ⟨ret_bool rfl, Below.refl _ _⟩
set_option maxHeartbeats 4000000 in
theorem sLt_is (A : Option Addr) (cap : Nat) (xs : List Int) {n : Nat} {r : Bool} (w : World) (hn : xs.length = n) (h : SRow encNum w A xs) (hl : n ≤ 2000000) (hr : ltB xs = r) :
    Calls Try.prog 18 #[.slice A n cap] w fun E w' => E = .returned (.bool r) ∧ Below w.heap.size w w' := by
  subst hr
  have HN := Lib.hid hn
  clear hn
  go_enter Try.func18, Try.ntmps18
  go_wp2_with fail
  go_loopw [3] (fun v wr => ∃ k : Nat, v = .int .i64 k ∧ k ≤ n ∧ Hid ((xs.take k).all ltV = true) ∧ Below w.heap.size w wr) (fun v _ => (n - intOf v).toNat)
  case atStart => exact ⟨0, rfl, by omega, (by show _ = _; rfl), Below.refl _ _⟩
  case round =>
    obtain ⟨k, rfl, k1, HA, hB⟩ := hrel
    by_cases hlt : k < n
    · have hk : k < xs.length := by rw [HN.out]; exact hlt
      have hki : (k : Int) < (n : Int) := by omega
      obtain ⟨b, off, rfl, hb, c0⟩ := rowNum (h.next hB) hk
      obtain ⟨v, hv⟩ : ∃ v, ltV xs[k] = v := ⟨_, rfl⟩
      have HV : Hid (inV xs[k] 0 100 = v) := hv
      have HV2 : Hid (ltV xs[k] = v) := hv
      clear hv
      go_wp2_with fail
      refine (sIn7_is _ HV.out).mono ?_; rintro E w' ⟨rfl, rfl⟩
      cases v
      · go_wp2_with fail
        go_ret
        exact ⟨ret_bool (by unfold ltB; rw [al7_no hk HV2.out]; simp), hB⟩
      · go_wp2_with fail
        go_roundw
        case rel => exact ⟨k + 1, by go_num, by omega, Lib.hid (al7_step hk HA.out HV2.out), hB⟩
        case measure => simp [intOf]; omega
    · have hki : ¬ (k : Int) < (n : Int) := by omega
      have HX : Hid (xs.all ltV = true) := al7_yes HN.out (by omega) HA.out
      clear HA
      go_wp2_with fail
      go_ret
      exact ⟨ret_bool (by unfold ltB; rw [HX.out, HN.out]; rw [Bool.eq_iff_iff]; simp; try omega), hB⟩
def stI (s : Bool) : Int := if s = true then 1 else 0
set_option maxHeartbeats 4000000 in
theorem iSt_any (s : Bool) (w : World) :
    Calls Try.prog 49 #[.bool s] w fun E w' => E = .returned (.int .i64 (stI s)) ∧ Below w.heap.size w w' := by
  cases s
  all_goals
    go_enter Try.func49, Try.ntmps49
    go_wp2
    go_ret
    exact ⟨rfl, Below.refl _ _⟩
set_option maxHeartbeats 4000000 in
theorem iBh_is {s r : Bool} {lo hi x : Int} (w : World) (hr : sgB s lo hi x = r) :
    Calls Try.prog 50 #[.int .i64 (stI s), .agg #[.int .i64 lo, .int .i64 hi], .int .i64 x] w fun E w' => E = .returned (.int .i64 (stI r)) ∧ Below w.heap.size w w' := by
  subst hr
  have HE := Lib.hid (show sgB s lo hi x = if hi ≤ x then true else if x ≤ lo then false else s from rfl)
  generalize hq : stI s = q
  have HQ := Lib.hid hq
  clear hq
  by_cases h1 : hi ≤ x
  · go_enter Try.func50, Try.ntmps50
    go_wp2
    go_ret
    exact ⟨ret_int (by rw [sgB_hi (by omega)]; rfl), bel1 _ _⟩
  · by_cases h2 : x ≤ lo
    · go_enter Try.func50, Try.ntmps50
      go_wp2
      go_ret
      exact ⟨ret_int (by rw [sgB_lo (by omega) (by omega)]; rfl), bel1 _ _⟩
    · go_enter Try.func50, Try.ntmps50
      go_wp2
      go_ret
      exact ⟨ret_int (by rw [sgB_mid (by omega) (by omega), HQ.out]), bel1 _ _⟩
theorem iBh_t {s : Bool} {lo hi x : Int} (w : World) (hr : sgB s lo hi x = true) : Calls Try.prog 50 #[.int .i64 (stI s), .agg #[.int .i64 lo, .int .i64 hi], .int .i64 x] w fun E w' => E = .returned (.int .i64 1) ∧ Below w.heap.size w w' := iBh_is w hr
theorem iBh_f {s : Bool} {lo hi x : Int} (w : World) (hr : sgB s lo hi x = false) : Calls Try.prog 50 #[.int .i64 (stI s), .agg #[.int .i64 lo, .int .i64 hi], .int .i64 x] w fun E w' => E = .returned (.int .i64 0) ∧ Below w.heap.size w w' := iBh_is w hr
set_option maxHeartbeats 4000000 in
theorem iBs_is {s r : Bool} {lo hi x : Int} (w : World) (hr : bqB s lo hi x = r) :
    Calls Try.prog 20 #[.bool s, .agg #[.int .i64 lo, .int .i64 hi], .int .i64 x] w fun E w' => E = .returned (.bool r) ∧ Below w.heap.size w w' := by
  subst hr
  cases hb : bdB lo hi
  · rw [bqB_no hb]
    have HB := Lib.hid hb
    clear hb
    go_enter Try.func20, Try.ntmps20
    go_wp2_with fail
    refine (iBd_is _ HB.out).mono ?_; rintro E w1 ⟨rfl, hw1⟩
    obtain ⟨hP1, hB1⟩ := ownb hw1
    obtain ⟨c0, c1, f0, f1, z1⟩ := blk2 hP1
    go_wp2
    go_ret
    exact ⟨rfl, hB1⟩
  · rw [bqB_yes hb]
    obtain ⟨v, hv⟩ : ∃ v, sgB s lo hi x = v := ⟨_, rfl⟩
    rw [hv]
    have HS := Lib.hid hv
    clear hv
    have HB := Lib.hid hb
    clear hb
    go_enter Try.func20, Try.ntmps20
    go_wp2_with fail
    refine (iBd_is _ HB.out).mono ?_; rintro E w1 ⟨rfl, hw1⟩
    obtain ⟨hP1, hB1⟩ := ownb hw1
    obtain ⟨c0, c1, f0, f1, z1⟩ := blk2 hP1
    cases v
    · go_wp2_with fail
      refine wp_region_held_drew (S := (fun w' => w'.heap[w.heap.size]? = some (.cells #[.int .i64 lo, .int .i64 hi] 24) ∧ Below w.heap.size w w')) (by kernel_rfl) ⟨hP1, hB1.drew⟩ (fun hHeld => ?_)
      obtain ⟨hP_0, hB_0⟩ := id hHeld
      refine wpAnyH_take (i := 0) (oi := _) (v := ?_) rfl (by kernel_rfl) (by kernel_rfl) (by kernel_rfl) (fun _ _ _ h => h) (Or.inl ⟨by rfl, ?_⟩) (by assumption) ?_
      (rotate_left); (focus (intro wv hSw; (obtain ⟨qP, qB⟩ := hSw);  go_simp; (try with_reducible rfl)))
      try simp only [Act.put, List.getElem_toArray, List.getElem_cons_succ, List.getElem_cons_zero, List.setIfInBounds_toArray, List.set_cons_zero, List.set_cons_succ]
      refine wpAnyH_take (i := 2) (oi := _) (v := ?_) rfl (by kernel_rfl) (by kernel_rfl) (by kernel_rfl) (fun _ _ _ h => h) (Or.inl ⟨by rfl, ?_⟩) (by assumption) ?_
      (rotate_left); (focus (intro wv hSw; (obtain ⟨qP, qB⟩ := hSw); obtain ⟨u0, u1, _, _, _⟩ := blk2 qP; go_simp; (try with_reducible rfl)))
      try simp only [Act.put, List.getElem_toArray, List.getElem_cons_succ, List.getElem_cons_zero, List.setIfInBounds_toArray, List.set_cons_zero, List.set_cons_succ]
      refine wpAnyH_take (i := 3) (oi := _) (v := ?_) rfl (by kernel_rfl) (by kernel_rfl) (by kernel_rfl) (fun _ _ _ h => h) (Or.inl ⟨by rfl, ?_⟩) (by assumption) ?_
      (rotate_left); (focus (intro wv hSw; (obtain ⟨qP, qB⟩ := hSw);  go_simp; (try with_reducible rfl)))
      try simp only [Act.put, List.getElem_toArray, List.getElem_cons_succ, List.getElem_cons_zero, List.setIfInBounds_toArray, List.set_cons_zero, List.set_cons_succ]
      refine wpAnyH_ready (rs := [1]) (by kernel_rfl) (by simp) ?_
      refine AllReadyH.cons (o := _) rfl (fun K hK => ?_) AllReadyH.nil
      go_simp
      (go_at_call 49; refine (iSt_any _ _).mono ?_; rintro e x0c ⟨rfl, hw_0c⟩)
      refine hK.out _ _ ⟨blk_next hP_0 hw_0c, bel_next hB_0 hw_0c⟩ (fun hHeld => ?_)
      clear hK K
      try simp only [Act.put, List.getElem_toArray, List.getElem_cons_succ, List.getElem_cons_zero, List.setIfInBounds_toArray, List.set_cons_zero, List.set_cons_succ]
      obtain ⟨hP_0c, hB_0c⟩ := id hHeld
      refine wpAnyH_ready (rs := [4]) (by kernel_rfl) (by simp) ?_
      refine AllReadyH.cons (o := _) rfl (fun K hK => ?_) AllReadyH.nil
      go_simp
      (go_at_call 50; refine (iBh_f _ HS.out).mono ?_; rintro e x0cc ⟨rfl, hw_0cc⟩)
      refine hK.out _ _ ⟨blk_next hP_0c hw_0cc, bel_next hB_0c hw_0cc⟩ (fun hHeld => ?_)
      clear hK K
      try simp only [Act.put, List.getElem_toArray, List.getElem_cons_succ, List.getElem_cons_zero, List.setIfInBounds_toArray, List.set_cons_zero, List.set_cons_succ]
      obtain ⟨hP_0cc, hB_0cc⟩ := id hHeld
      refine wpAnyH_take (i := 5) (oi := _) (v := ?_) rfl (by kernel_rfl) (by kernel_rfl) (by kernel_rfl) (fun _ _ _ h => h) (Or.inl ⟨by rfl, ?_⟩) (by assumption) ?_
      (rotate_left); (focus (intro wv hSw; (obtain ⟨qP, qB⟩ := hSw);  go_simp; (try with_reducible rfl)))
      try simp only [Act.put, List.getElem_toArray, List.getElem_cons_succ, List.getElem_cons_zero, List.setIfInBounds_toArray, List.set_cons_zero, List.set_cons_succ]
      refine wpAnyH_take (i := 6) (oi := _) (v := ?_) rfl (by kernel_rfl) (by kernel_rfl) (by kernel_rfl) (fun _ _ _ h => h) (Or.inl ⟨by rfl, ?_⟩) (by assumption) ?_
      (rotate_left); (focus (intro wv hSw; (obtain ⟨qP, qB⟩ := hSw);  go_simp; (try with_reducible rfl)))
      try simp only [Act.put, List.getElem_toArray, List.getElem_cons_succ, List.getElem_cons_zero, List.setIfInBounds_toArray, List.set_cons_zero, List.set_cons_succ]
      refine wpAnyH_done (by kernel_rfl) ?_ _
      go_wp2
      go_ret
      exact ⟨rfl, hB_0cc⟩
    · go_wp2_with fail
      refine wp_region_held_drew (S := (fun w' => w'.heap[w.heap.size]? = some (.cells #[.int .i64 lo, .int .i64 hi] 24) ∧ Below w.heap.size w w')) (by kernel_rfl) ⟨hP1, hB1.drew⟩ (fun hHeld => ?_)
      obtain ⟨hP_0, hB_0⟩ := id hHeld
      refine wpAnyH_take (i := 0) (oi := _) (v := ?_) rfl (by kernel_rfl) (by kernel_rfl) (by kernel_rfl) (fun _ _ _ h => h) (Or.inl ⟨by rfl, ?_⟩) (by assumption) ?_
      (rotate_left); (focus (intro wv hSw; (obtain ⟨qP, qB⟩ := hSw);  go_simp; (try with_reducible rfl)))
      try simp only [Act.put, List.getElem_toArray, List.getElem_cons_succ, List.getElem_cons_zero, List.setIfInBounds_toArray, List.set_cons_zero, List.set_cons_succ]
      refine wpAnyH_take (i := 2) (oi := _) (v := ?_) rfl (by kernel_rfl) (by kernel_rfl) (by kernel_rfl) (fun _ _ _ h => h) (Or.inl ⟨by rfl, ?_⟩) (by assumption) ?_
      (rotate_left); (focus (intro wv hSw; (obtain ⟨qP, qB⟩ := hSw); obtain ⟨u0, u1, _, _, _⟩ := blk2 qP; go_simp; (try with_reducible rfl)))
      try simp only [Act.put, List.getElem_toArray, List.getElem_cons_succ, List.getElem_cons_zero, List.setIfInBounds_toArray, List.set_cons_zero, List.set_cons_succ]
      refine wpAnyH_take (i := 3) (oi := _) (v := ?_) rfl (by kernel_rfl) (by kernel_rfl) (by kernel_rfl) (fun _ _ _ h => h) (Or.inl ⟨by rfl, ?_⟩) (by assumption) ?_
      (rotate_left); (focus (intro wv hSw; (obtain ⟨qP, qB⟩ := hSw);  go_simp; (try with_reducible rfl)))
      try simp only [Act.put, List.getElem_toArray, List.getElem_cons_succ, List.getElem_cons_zero, List.setIfInBounds_toArray, List.set_cons_zero, List.set_cons_succ]
      refine wpAnyH_ready (rs := [1]) (by kernel_rfl) (by simp) ?_
      refine AllReadyH.cons (o := _) rfl (fun K hK => ?_) AllReadyH.nil
      go_simp
      (go_at_call 49; refine (iSt_any _ _).mono ?_; rintro e x0c ⟨rfl, hw_0c⟩)
      refine hK.out _ _ ⟨blk_next hP_0 hw_0c, bel_next hB_0 hw_0c⟩ (fun hHeld => ?_)
      clear hK K
      try simp only [Act.put, List.getElem_toArray, List.getElem_cons_succ, List.getElem_cons_zero, List.setIfInBounds_toArray, List.set_cons_zero, List.set_cons_succ]
      obtain ⟨hP_0c, hB_0c⟩ := id hHeld
      refine wpAnyH_ready (rs := [4]) (by kernel_rfl) (by simp) ?_
      refine AllReadyH.cons (o := _) rfl (fun K hK => ?_) AllReadyH.nil
      go_simp
      (go_at_call 50; refine (iBh_t _ HS.out).mono ?_; rintro e x0cc ⟨rfl, hw_0cc⟩)
      refine hK.out _ _ ⟨blk_next hP_0c hw_0cc, bel_next hB_0c hw_0cc⟩ (fun hHeld => ?_)
      clear hK K
      try simp only [Act.put, List.getElem_toArray, List.getElem_cons_succ, List.getElem_cons_zero, List.setIfInBounds_toArray, List.set_cons_zero, List.set_cons_succ]
      obtain ⟨hP_0cc, hB_0cc⟩ := id hHeld
      refine wpAnyH_take (i := 5) (oi := _) (v := ?_) rfl (by kernel_rfl) (by kernel_rfl) (by kernel_rfl) (fun _ _ _ h => h) (Or.inl ⟨by rfl, ?_⟩) (by assumption) ?_
      (rotate_left); (focus (intro wv hSw; (obtain ⟨qP, qB⟩ := hSw);  go_simp; (try with_reducible rfl)))
      try simp only [Act.put, List.getElem_toArray, List.getElem_cons_succ, List.getElem_cons_zero, List.setIfInBounds_toArray, List.set_cons_zero, List.set_cons_succ]
      refine wpAnyH_take (i := 6) (oi := _) (v := ?_) rfl (by kernel_rfl) (by kernel_rfl) (by kernel_rfl) (fun _ _ _ h => h) (Or.inl ⟨by rfl, ?_⟩) (by assumption) ?_
      (rotate_left); (focus (intro wv hSw; (obtain ⟨qP, qB⟩ := hSw);  go_simp; (try with_reducible rfl)))
      try simp only [Act.put, List.getElem_toArray, List.getElem_cons_succ, List.getElem_cons_zero, List.setIfInBounds_toArray, List.set_cons_zero, List.set_cons_succ]
      refine wpAnyH_done (by kernel_rfl) ?_ _
      go_wp2
      go_ret
      exact ⟨rfl, hB_0cc⟩
set_option maxHeartbeats 4000000 in
theorem sBs_is {s r : Bool} {lo hi x : Int} (w : World) (hr : bqB s lo hi x = r) :
    Calls Try.prog 21 #[.bool s, .agg #[.int .i64 lo, .int .i64 hi], .int .i64 x] w fun E w' => E = .returned (.bool r) ∧ Below w.heap.size w w' := by
  subst hr
  cases hb : bdB lo hi
  · rw [bqB_no hb]
    have HB := Lib.hid hb
    clear hb
    go_enter Try.func21, Try.ntmps21
    go_wp2_with fail
    refine (sBd_is _ HB.out).mono ?_; rintro E w1 ⟨rfl, hw1⟩
    obtain ⟨hP1, hB1⟩ := ownb hw1
    obtain ⟨c0, c1, f0, f1, z1⟩ := blk2 hP1
    go_wp2
    go_ret
    exact ⟨rfl, hB1⟩
  · rw [bqB_yes hb]
    have HB := Lib.hid hb
    clear hb
    go_enter Try.func21, Try.ntmps21
    go_wp2_with fail
    refine (sBd_is _ HB.out).mono ?_; rintro E w1 ⟨rfl, hw1⟩
    obtain ⟨hP1, hB1⟩ := ownb hw1
    obtain ⟨c0, c1, f0, f1, z1⟩ := blk2 hP1
    by_cases h1 : hi ≤ x
    · go_wp2
      go_ret
      exact ⟨ret_bool ((sgB_hi (by omega)).symm), hB1⟩
    · by_cases h2 : x ≤ lo
      · go_wp2
        go_ret
        exact ⟨ret_bool ((sgB_lo (by omega) (by omega)).symm), hB1⟩
      · go_wp2
        go_ret
        exact ⟨ret_bool ((sgB_mid (by omega) (by omega)).symm), hB1⟩
end Go.Proofs.Ytpmbjdfecbmgoaa
