/- QG: texts joined. -/
import Derived.Test.YtbklgpghonigjaaGreatMQD
import Derived.Test.YtbklgpghonigjaaGreatMQE
import Derived.Test.YtbklgpghonigjaaGreatMQC
import Derived.Laws.AppendOwn
namespace Go.Proofs.YtbklgpghonigjaaGreat
set_option linter.unusedVariables false
set_option linter.unusedSimpArgs false
def bdB (lo hi : Int) : Bool := decide (0 ≤ lo ∧ lo < hi ∧ hi ≤ 100)
/-- Behind a minute with some light, by a valid band. -/
def sgB (s : Bool) (lo hi x : Int) : Bool := if hi ≤ x then true else if x ≤ lo then false else s
def bqB (s : Bool) (lo hi x : Int) : Bool := if bdB lo hi = true then sgB s lo hi x else s
theorem sgB_hi {s : Bool} {lo hi x : Int} (h : hi ≤ x) : sgB s lo hi x = true := if_pos h
theorem sgB_lo {s : Bool} {lo hi x : Int} (h : ¬ hi ≤ x) (h2 : x ≤ lo) : sgB s lo hi x = false := by unfold sgB; rw [if_neg h, if_pos h2]
theorem sgB_mid {s : Bool} {lo hi x : Int} (h : ¬ hi ≤ x) (h2 : ¬ x ≤ lo) : sgB s lo hi x = s := by unfold sgB; rw [if_neg h, if_neg h2]
theorem bqB_yes {s : Bool} {lo hi x : Int} (h : bdB lo hi = true) : bqB s lo hi x = sgB s lo hi x := if_pos h
theorem bqB_no {s : Bool} {lo hi x : Int} (h : bdB lo hi = false) : bqB s lo hi x = s := by unfold bqB; rw [h]; rfl
def psB (t lo hi p : Int) : Bool := inV t 0 20 && bdB lo hi && inV p 0 20
theorem psB_iff {t lo hi p : Int} : psB t lo hi p = true ↔ (0 ≤ t ∧ t ≤ 20) ∧ bdB lo hi = true ∧ (0 ≤ p ∧ p ≤ 20) := by
  unfold psB inV; simp [and_assoc]
theorem psB_false {t lo hi p : Int} (h : psB t lo hi p = false) : inV t 0 20 = false ∨ (inV t 0 20 = true ∧ bdB lo hi = false) ∨ (inV t 0 20 = true ∧ bdB lo hi = true ∧ inV p 0 20 = false) := by
  unfold psB at h
  cases h1 : inV t 0 20
  · exact .inl rfl
  · rw [h1] at h
    cases h2 : bdB lo hi
    · exact .inr (.inl ⟨rfl, rfl⟩)
    · rw [h2] at h; exact .inr (.inr ⟨rfl, rfl, by simpa using h⟩)
theorem psB_true {t lo hi p : Int} (h : psB t lo hi p = true) : inV t 0 20 = true ∧ bdB lo hi = true ∧ inV p 0 20 = true := by
  unfold psB at h; simpa [and_assoc] using h
/-- Whether it moves. -/
def psM (s : Bool) (t lo hi p x : Int) : Bool := !(sgB s lo hi x == s) && decide (p ≤ t)
def psS (s : Bool) (t lo hi p x : Int) : Bool := if psM s t lo hi p x = true then !s else s
def psT (s : Bool) (t lo hi p x : Int) : Int := if psM s t lo hi p x = true then 0 else min (t + 1) 20
theorem ps_mv {s : Bool} {t lo hi p x : Int} (h : sgB s lo hi x = !s) (h2 : p ≤ t) : psS s t lo hi p x = (!s) ∧ psT s t lo hi p x = 0 := by
  have : psM s t lo hi p x = true := by unfold psM; rw [h]; simp [h2]
  exact ⟨if_pos this, if_pos this⟩
theorem ps_st {s : Bool} {t lo hi p x : Int} (h : sgB s lo hi x = s) : psS s t lo hi p x = s ∧ psT s t lo hi p x = min (t + 1) 20 := by
  have : psM s t lo hi p x = false := by unfold psM; rw [h]; simp
  unfold psS psT; rw [this]; exact ⟨rfl, rfl⟩
theorem ps_wt {s : Bool} {t lo hi p x : Int} (h : ¬ p ≤ t) : psS s t lo hi p x = s ∧ psT s t lo hi p x = min (t + 1) 20 := by
  have : psM s t lo hi p x = false := by unfold psM; simp [h]
  unfold psS psT; rw [this]; exact ⟨rfl, rfl⟩
theorem psT_bd {s : Bool} {t lo hi p x : Int} (h : 0 ≤ t) : 0 ≤ psT s t lo hi p x ∧ psT s t lo hi p x ≤ 20 := by unfold psT; split <;> omega
/-- The blind of a step: shut, still; false and 0 for other arguments. -/
def pqS (s : Bool) (t lo hi p x : Int) : Bool := if psB t lo hi p = true then psS s t lo hi p x else false
def pqT (s : Bool) (t lo hi p x : Int) : Int := if psB t lo hi p = true then psT s t lo hi p x else 0
theorem pq_yes {s : Bool} {t lo hi p x : Int} (h : psB t lo hi p = true) : pqS s t lo hi p x = psS s t lo hi p x ∧ pqT s t lo hi p x = psT s t lo hi p x := ⟨if_pos h, if_pos h⟩
theorem pq_no {s : Bool} {t lo hi p x : Int} (h : psB t lo hi p = false) : pqS s t lo hi p x = false ∧ pqT s t lo hi p x = 0 := by unfold pqS pqT; rw [h]; exact ⟨rfl, rfl⟩
end Go.Proofs.YtbklgpghonigjaaGreat
namespace Go.Proofs.YtbklgpghonigjaaGreat
open Go Go.ChangeShapes Go.WideShapes Go.ChangeAt Go.RowKit
set_option linter.unusedSimpArgs false
set_option linter.unusedVariables false
set_option maxHeartbeats 4000000 in
theorem iBd_any (lo hi : Int) (w : World) :
    Calls Tryz.prog 74 #[.agg #[.int .i64 lo, .int .i64 hi]] w fun E w' => E = .returned (.bool (bdB lo hi)) ∧ Below w.heap.size w w' := by
  go_enter Tryz.func74, Tryz.ntmps74
  go_wp2
  all_goals go_ret
  all_goals exact ⟨ret_bool (by first | (simp_all [bdB]; done) | (rw [Bool.eq_iff_iff]; simp_all [bdB]; omega)), bel1 _ _⟩
set_option maxHeartbeats 4000000 in
theorem sBd_any (lo hi : Int) (w : World) :
    Calls Tryz.prog 69 #[.agg #[.int .i64 lo, .int .i64 hi]] w fun E w' => E = .returned (.bool (bdB lo hi)) ∧ Below w.heap.size w w' := by
  by_cases hh : 1 ≤ hi ∧ hi ≤ 100
  · obtain ⟨h1, h2⟩ := hh
    go_enter Tryz.func69, Tryz.ntmps69
    go_wp2_with (go_at_call 65; refine (sIn7 _ _ _ _).mono ?_; rintro E w' ⟨rfl, rfl⟩)
    all_goals go_ret
    all_goals exact ⟨ret_bool (by first | (simp_all [bdB, inV]; done) | (rw [Bool.eq_iff_iff]; simp_all [bdB, inV]; omega)), bel1 _ _⟩
  · have hf : bdB lo hi = false := by unfold bdB; exact decide_eq_false (by omega)
    have hg : inV hi 1 100 = false := by unfold inV; exact decide_eq_false (by omega)
    have HF := Lib.hid hf
    have HG := Lib.hid hg
    clear hf hg hh
    go_enter Tryz.func69, Tryz.ntmps69
    go_wp2_with (go_at_call 65; first | ((with_reducible refine (sIn7_is _ HG.out).mono ?_); rintro E w' ⟨rfl, rfl⟩) | (refine (sIn7 _ _ _ _).mono ?_; rintro E w' ⟨rfl, rfl⟩))
    all_goals go_ret
    all_goals exact ⟨ret_bool HF.out.symm, bel1 _ _⟩
theorem iBd_is {lo hi : Int} {r : Bool} (w : World) (h_ : bdB lo hi = r) : Calls Tryz.prog 74 #[.agg #[.int .i64 lo, .int .i64 hi]] w fun E w' => E = .returned (.bool r) ∧ Below w.heap.size w w' := by subst h_; exact iBd_any lo hi w
theorem sBd_is {lo hi : Int} {r : Bool} (w : World) (h_ : bdB lo hi = r) : Calls Tryz.prog 69 #[.agg #[.int .i64 lo, .int .i64 hi]] w fun E w' => E = .returned (.bool r) ∧ Below w.heap.size w w' := by subst h_; exact sBd_any lo hi w
def stI (s : Bool) : Int := if s = true then 1 else 0
set_option maxHeartbeats 4000000 in
theorem iSt_any (s : Bool) (w : World) :
    Calls Tryz.prog 122 #[.bool s] w fun E w' => E = .returned (.int .i64 (stI s)) ∧ Below w.heap.size w w' := by
  cases s
  all_goals
    go_enter Tryz.func122, Tryz.ntmps122
    go_wp2
    go_ret
    exact ⟨rfl, Below.refl _ _⟩
set_option maxHeartbeats 4000000 in
theorem iBh_is {s r : Bool} {lo hi x : Int} (w : World) (hr : sgB s lo hi x = r) :
    Calls Tryz.prog 123 #[.int .i64 (stI s), .agg #[.int .i64 lo, .int .i64 hi], .int .i64 x] w fun E w' => E = .returned (.int .i64 (stI r)) ∧ Below w.heap.size w w' := by
  subst hr
  have HE := Lib.hid (show sgB s lo hi x = if hi ≤ x then true else if x ≤ lo then false else s from rfl)
  generalize hq : stI s = q
  have HQ := Lib.hid hq
  clear hq
  by_cases h1 : hi ≤ x
  · go_enter Tryz.func123, Tryz.ntmps123
    go_wp2
    go_ret
    exact ⟨ret_int (by rw [sgB_hi (by omega)]; rfl), bel1 _ _⟩
  · by_cases h2 : x ≤ lo
    · go_enter Tryz.func123, Tryz.ntmps123
      go_wp2
      go_ret
      exact ⟨ret_int (by rw [sgB_lo (by omega) (by omega)]; rfl), bel1 _ _⟩
    · go_enter Tryz.func123, Tryz.ntmps123
      go_wp2
      go_ret
      exact ⟨ret_int (by rw [sgB_mid (by omega) (by omega), HQ.out]), bel1 _ _⟩
theorem iBh_t {s : Bool} {lo hi x : Int} (w : World) (hr : sgB s lo hi x = true) : Calls Tryz.prog 123 #[.int .i64 (stI s), .agg #[.int .i64 lo, .int .i64 hi], .int .i64 x] w fun E w' => E = .returned (.int .i64 1) ∧ Below w.heap.size w w' := iBh_is w hr
theorem iBh_f {s : Bool} {lo hi x : Int} (w : World) (hr : sgB s lo hi x = false) : Calls Tryz.prog 123 #[.int .i64 (stI s), .agg #[.int .i64 lo, .int .i64 hi], .int .i64 x] w fun E w' => E = .returned (.int .i64 0) ∧ Below w.heap.size w w' := iBh_is w hr
set_option maxHeartbeats 4000000 in
theorem iBq_is {s r : Bool} {lo hi x : Int} (w : World) (hr : bqB s lo hi x = r) :
    Calls Tryz.prog 77 #[.bool s, .agg #[.int .i64 lo, .int .i64 hi], .int .i64 x] w fun E w' => E = .returned (.bool r) ∧ Below w.heap.size w w' := by
  subst hr
  cases hb : bdB lo hi
  · rw [bqB_no hb]
    have HB := Lib.hid hb
    clear hb
    go_enter Tryz.func77, Tryz.ntmps77
    go_wp2_with fail
    refine (iBd_is _ HB.out).mono ?_; rintro E w1 ⟨rfl, hw1⟩
    obtain ⟨hP1, hB1⟩ := ownb hw1
    obtain ⟨c0, c1, f0, f1, z1⟩ := blk2 hP1
    go_wp2
    go_ret
    exact ⟨rfl, hB1⟩
  · rw [bqB_yes hb]
    obtain ⟨v, hv⟩ : ∃ v, sgB s lo hi x = v := ⟨_, rfl⟩
    rw [hv]
    have HS := Lib.hid hv
    clear hv
    have HB := Lib.hid hb
    clear hb
    go_enter Tryz.func77, Tryz.ntmps77
    go_wp2_with fail
    refine (iBd_is _ HB.out).mono ?_; rintro E w1 ⟨rfl, hw1⟩
    obtain ⟨hP1, hB1⟩ := ownb hw1
    obtain ⟨c0, c1, f0, f1, z1⟩ := blk2 hP1
    cases v
    · go_wp2_with fail
      refine wp_region_held_drew (S := (fun w' => w'.heap[w.heap.size]? = some (.cells #[.int .i64 lo, .int .i64 hi] 29) ∧ Below w.heap.size w w')) (by kernel_rfl) ⟨hP1, hB1.drew⟩ (fun hHeld => ?_)
      obtain ⟨hP_0, hB_0⟩ := id hHeld
      refine wpAnyH_take (i := 0) (oi := _) (v := ?_) rfl (by kernel_rfl) (by kernel_rfl) (by kernel_rfl) (fun _ _ _ h => h) (Or.inl ⟨by rfl, ?_⟩) (by assumption) ?_
      (rotate_left); (focus (intro wv hSw; (obtain ⟨qP, qB⟩ := hSw);  go_simp; (try with_reducible rfl)))
      try simp only [Act.put, List.getElem_toArray, List.getElem_cons_succ, List.getElem_cons_zero, List.setIfInBounds_toArray, List.set_cons_zero, List.set_cons_succ]
      refine wpAnyH_take (i := 2) (oi := _) (v := ?_) rfl (by kernel_rfl) (by kernel_rfl) (by kernel_rfl) (fun _ _ _ h => h) (Or.inl ⟨by rfl, ?_⟩) (by assumption) ?_
      (rotate_left); (focus (intro wv hSw; (obtain ⟨qP, qB⟩ := hSw); obtain ⟨u0, u1, _, _, _⟩ := blk2 qP; go_simp; (try with_reducible rfl)))
      try simp only [Act.put, List.getElem_toArray, List.getElem_cons_succ, List.getElem_cons_zero, List.setIfInBounds_toArray, List.set_cons_zero, List.set_cons_succ]
      refine wpAnyH_take (i := 3) (oi := _) (v := ?_) rfl (by kernel_rfl) (by kernel_rfl) (by kernel_rfl) (fun _ _ _ h => h) (Or.inl ⟨by rfl, ?_⟩) (by assumption) ?_
      (rotate_left); (focus (intro wv hSw; (obtain ⟨qP, qB⟩ := hSw);  go_simp; (try with_reducible rfl)))
      try simp only [Act.put, List.getElem_toArray, List.getElem_cons_succ, List.getElem_cons_zero, List.setIfInBounds_toArray, List.set_cons_zero, List.set_cons_succ]
      refine wpAnyH_ready (rs := [1]) (by kernel_rfl) (by simp) ?_
      refine AllReadyH.cons (o := _) rfl (fun K hK => ?_) AllReadyH.nil
      go_simp
      (go_at_call 122; refine (iSt_any _ _).mono ?_; rintro e x0c ⟨rfl, hw_0c⟩)
      refine hK.out _ _ ⟨blk_next hP_0 hw_0c, bel_next hB_0 hw_0c⟩ (fun hHeld => ?_)
      clear hK K
      try simp only [Act.put, List.getElem_toArray, List.getElem_cons_succ, List.getElem_cons_zero, List.setIfInBounds_toArray, List.set_cons_zero, List.set_cons_succ]
      obtain ⟨hP_0c, hB_0c⟩ := id hHeld
      refine wpAnyH_ready (rs := [4]) (by kernel_rfl) (by simp) ?_
      refine AllReadyH.cons (o := _) rfl (fun K hK => ?_) AllReadyH.nil
      go_simp
      (go_at_call 123; refine (iBh_f _ HS.out).mono ?_; rintro e x0cc ⟨rfl, hw_0cc⟩)
      refine hK.out _ _ ⟨blk_next hP_0c hw_0cc, bel_next hB_0c hw_0cc⟩ (fun hHeld => ?_)
      clear hK K
      try simp only [Act.put, List.getElem_toArray, List.getElem_cons_succ, List.getElem_cons_zero, List.setIfInBounds_toArray, List.set_cons_zero, List.set_cons_succ]
      obtain ⟨hP_0cc, hB_0cc⟩ := id hHeld
      refine wpAnyH_take (i := 5) (oi := _) (v := ?_) rfl (by kernel_rfl) (by kernel_rfl) (by kernel_rfl) (fun _ _ _ h => h) (Or.inl ⟨by rfl, ?_⟩) (by assumption) ?_
      (rotate_left); (focus (intro wv hSw; (obtain ⟨qP, qB⟩ := hSw);  go_simp; (try with_reducible rfl)))
      try simp only [Act.put, List.getElem_toArray, List.getElem_cons_succ, List.getElem_cons_zero, List.setIfInBounds_toArray, List.set_cons_zero, List.set_cons_succ]
      refine wpAnyH_take (i := 6) (oi := _) (v := ?_) rfl (by kernel_rfl) (by kernel_rfl) (by kernel_rfl) (fun _ _ _ h => h) (Or.inl ⟨by rfl, ?_⟩) (by assumption) ?_
      (rotate_left); (focus (intro wv hSw; (obtain ⟨qP, qB⟩ := hSw);  go_simp; (try with_reducible rfl)))
      try simp only [Act.put, List.getElem_toArray, List.getElem_cons_succ, List.getElem_cons_zero, List.setIfInBounds_toArray, List.set_cons_zero, List.set_cons_succ]
      refine wpAnyH_done (by kernel_rfl) ?_ _
      go_wp2
      go_ret
      exact ⟨rfl, hB_0cc⟩
    · go_wp2_with fail
      refine wp_region_held_drew (S := (fun w' => w'.heap[w.heap.size]? = some (.cells #[.int .i64 lo, .int .i64 hi] 29) ∧ Below w.heap.size w w')) (by kernel_rfl) ⟨hP1, hB1.drew⟩ (fun hHeld => ?_)
      obtain ⟨hP_0, hB_0⟩ := id hHeld
      refine wpAnyH_take (i := 0) (oi := _) (v := ?_) rfl (by kernel_rfl) (by kernel_rfl) (by kernel_rfl) (fun _ _ _ h => h) (Or.inl ⟨by rfl, ?_⟩) (by assumption) ?_
      (rotate_left); (focus (intro wv hSw; (obtain ⟨qP, qB⟩ := hSw);  go_simp; (try with_reducible rfl)))
      try simp only [Act.put, List.getElem_toArray, List.getElem_cons_succ, List.getElem_cons_zero, List.setIfInBounds_toArray, List.set_cons_zero, List.set_cons_succ]
      refine wpAnyH_take (i := 2) (oi := _) (v := ?_) rfl (by kernel_rfl) (by kernel_rfl) (by kernel_rfl) (fun _ _ _ h => h) (Or.inl ⟨by rfl, ?_⟩) (by assumption) ?_
      (rotate_left); (focus (intro wv hSw; (obtain ⟨qP, qB⟩ := hSw); obtain ⟨u0, u1, _, _, _⟩ := blk2 qP; go_simp; (try with_reducible rfl)))
      try simp only [Act.put, List.getElem_toArray, List.getElem_cons_succ, List.getElem_cons_zero, List.setIfInBounds_toArray, List.set_cons_zero, List.set_cons_succ]
      refine wpAnyH_take (i := 3) (oi := _) (v := ?_) rfl (by kernel_rfl) (by kernel_rfl) (by kernel_rfl) (fun _ _ _ h => h) (Or.inl ⟨by rfl, ?_⟩) (by assumption) ?_
      (rotate_left); (focus (intro wv hSw; (obtain ⟨qP, qB⟩ := hSw);  go_simp; (try with_reducible rfl)))
      try simp only [Act.put, List.getElem_toArray, List.getElem_cons_succ, List.getElem_cons_zero, List.setIfInBounds_toArray, List.set_cons_zero, List.set_cons_succ]
      refine wpAnyH_ready (rs := [1]) (by kernel_rfl) (by simp) ?_
      refine AllReadyH.cons (o := _) rfl (fun K hK => ?_) AllReadyH.nil
      go_simp
      (go_at_call 122; refine (iSt_any _ _).mono ?_; rintro e x0c ⟨rfl, hw_0c⟩)
      refine hK.out _ _ ⟨blk_next hP_0 hw_0c, bel_next hB_0 hw_0c⟩ (fun hHeld => ?_)
      clear hK K
      try simp only [Act.put, List.getElem_toArray, List.getElem_cons_succ, List.getElem_cons_zero, List.setIfInBounds_toArray, List.set_cons_zero, List.set_cons_succ]
      obtain ⟨hP_0c, hB_0c⟩ := id hHeld
      refine wpAnyH_ready (rs := [4]) (by kernel_rfl) (by simp) ?_
      refine AllReadyH.cons (o := _) rfl (fun K hK => ?_) AllReadyH.nil
      go_simp
      (go_at_call 123; refine (iBh_t _ HS.out).mono ?_; rintro e x0cc ⟨rfl, hw_0cc⟩)
      refine hK.out _ _ ⟨blk_next hP_0c hw_0cc, bel_next hB_0c hw_0cc⟩ (fun hHeld => ?_)
      clear hK K
      try simp only [Act.put, List.getElem_toArray, List.getElem_cons_succ, List.getElem_cons_zero, List.setIfInBounds_toArray, List.set_cons_zero, List.set_cons_succ]
      obtain ⟨hP_0cc, hB_0cc⟩ := id hHeld
      refine wpAnyH_take (i := 5) (oi := _) (v := ?_) rfl (by kernel_rfl) (by kernel_rfl) (by kernel_rfl) (fun _ _ _ h => h) (Or.inl ⟨by rfl, ?_⟩) (by assumption) ?_
      (rotate_left); (focus (intro wv hSw; (obtain ⟨qP, qB⟩ := hSw);  go_simp; (try with_reducible rfl)))
      try simp only [Act.put, List.getElem_toArray, List.getElem_cons_succ, List.getElem_cons_zero, List.setIfInBounds_toArray, List.set_cons_zero, List.set_cons_succ]
      refine wpAnyH_take (i := 6) (oi := _) (v := ?_) rfl (by kernel_rfl) (by kernel_rfl) (by kernel_rfl) (fun _ _ _ h => h) (Or.inl ⟨by rfl, ?_⟩) (by assumption) ?_
      (rotate_left); (focus (intro wv hSw; (obtain ⟨qP, qB⟩ := hSw);  go_simp; (try with_reducible rfl)))
      try simp only [Act.put, List.getElem_toArray, List.getElem_cons_succ, List.getElem_cons_zero, List.setIfInBounds_toArray, List.set_cons_zero, List.set_cons_succ]
      refine wpAnyH_done (by kernel_rfl) ?_ _
      go_wp2
      go_ret
      exact ⟨rfl, hB_0cc⟩
set_option maxHeartbeats 4000000 in
theorem sBq_is {s r : Bool} {lo hi x : Int} (w : World) (hr : bqB s lo hi x = r) :
    Calls Tryz.prog 116 #[.bool s, .agg #[.int .i64 lo, .int .i64 hi], .int .i64 x] w fun E w' => E = .returned (.bool r) ∧ Below w.heap.size w w' := by
  subst hr
  cases hb : bdB lo hi
  · rw [bqB_no hb]
    have HB := Lib.hid hb
    clear hb
    go_enter Tryz.func116, Tryz.ntmps116
    go_wp2_with fail
    refine (sBd_is _ HB.out).mono ?_; rintro E w1 ⟨rfl, hw1⟩
    obtain ⟨hP1, hB1⟩ := ownb hw1
    obtain ⟨c0, c1, f0, f1, z1⟩ := blk2 hP1
    go_wp2
    go_ret
    exact ⟨rfl, hB1⟩
  · rw [bqB_yes hb]
    have HB := Lib.hid hb
    clear hb
    go_enter Tryz.func116, Tryz.ntmps116
    go_wp2_with fail
    refine (sBd_is _ HB.out).mono ?_; rintro E w1 ⟨rfl, hw1⟩
    obtain ⟨hP1, hB1⟩ := ownb hw1
    obtain ⟨c0, c1, f0, f1, z1⟩ := blk2 hP1
    by_cases h1 : hi ≤ x
    · go_wp2
      go_ret
      exact ⟨ret_bool ((sgB_hi (by omega)).symm), hB1⟩
    · by_cases h2 : x ≤ lo
      · go_wp2
        go_ret
        exact ⟨ret_bool ((sgB_lo (by omega) (by omega)).symm), hB1⟩
      · go_wp2
        go_ret
        exact ⟨ret_bool ((sgB_mid (by omega) (by omega)).symm), hB1⟩
end Go.Proofs.YtbklgpghonigjaaGreat
namespace Go.Proofs.YtbklgpghonigjaaGreat
open Go Go.ChangeShapes Go.WideShapes Go.ChangeAt Go.RowKit
set_option linter.unusedSimpArgs false
set_option linter.unusedVariables false
end Go.Proofs.YtbklgpghonigjaaGreat
