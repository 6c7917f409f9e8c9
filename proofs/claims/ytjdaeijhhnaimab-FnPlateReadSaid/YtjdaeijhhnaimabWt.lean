/- Contracts of chapter 2: between two ways. -/
import Derived.Test.YtjdaeijhhnaimabWs
import Derived.Test.YtjdaeijhhnaimabWc
import Derived.Test.YtjdaeijhhnaimabHlp2
namespace Go.Proofs.Ytjdaeijhhnaimab
open Go.ChangeShapes Go.WideShapes Go.ChangeAt Go.RowKit
set_option linter.unusedSimpArgs false
set_option linter.unusedVariables false
set_option linter.unnecessarySimpa false

theorem sm_mul {x y : Int} (hx : Sm 1000 x) (hy : Sm 1000 y) : Sm 1000000 (x * y) := by
  have := mul_bd hx.1 hx.2 hy.1 hy.2 (by omega); unfold Sm; omega
theorem sm_neg {x : Int} (hx : Sm 1000 x) : Sm 1000 (-x) := by unfold Sm at *; omega
theorem go_sm3 {a b : Int} (h : goB a b = true) : Sm 1000 a ∧ Sm 1000 b := by have := goB_iff.1 h; unfold Sm; omega
def tE (a b c d : Int) : Int := a * c - b * d
def tN (a b c d : Int) : Int := a * d + b * c
theorem tEN_sm {a b c d : Int} (ha : Sm 1000 a) (hb : Sm 1000 b) (hc : Sm 1000 c) (hd : Sm 1000 d) : Sm 1000000000 (tE a b c d) ∧ Sm 1000000000 (tN a b c d) := by
  have h1 := sm_mul ha hc; have h2 := sm_mul hb hd; have h3 := sm_mul ha hd; have h4 := sm_mul hb hc
  unfold tE tN Sm at *; omega
theorem iWF_in (a b : Int) (w : World) (hb : Sm 1000 b) : Calls Try.prog 43 #[.agg #[.int .i64 a, .int .i64 b]] w fun e w' => e = .returned (.agg #[.int .i64 a, .int .i64 (-b)]) ∧ Below w.heap.size w w' := by
  refine (iWF_any a b w).mono ?_
  rintro e w' ⟨rfl, hw⟩
  rw [w64_in (by have := hb.2; omega) (by have := hb.1; omega)]
  exact ⟨rfl, hw⟩
theorem iWT_in (a b c d : Int) (w : World) (ha : Sm 1000 a) (hb : Sm 1000 b) (hc : Sm 1000 c) (hd : Sm 1000 d) : Calls Try.prog 44 #[.agg #[.int .i64 a, .int .i64 b], .agg #[.int .i64 c, .int .i64 d]] w fun e w' => e = .returned (.agg #[.int .i64 (tE a b c d), .int .i64 (tN a b c d)]) ∧ Below w.heap.size w w' := by
  refine (iWT_any a b c d w).mono ?_
  rintro e w' ⟨rfl, hw⟩
  have h1 := sm_mul ha hc; have h2 := sm_mul hb hd; have h3 := sm_mul ha hd; have h4 := sm_mul hb hc
  unfold Sm at h1 h2 h3 h4
  rw [w64_in (x := a * c) (by omega) (by omega), w64_in (x := b * d) (by omega) (by omega), w64_in (x := a * d) (by omega) (by omega), w64_in (x := b * c) (by omega) (by omega), w64_in (x := a * c - b * d) (by omega) (by omega), w64_in (x := a * d + b * c) (by omega) (by omega)]
  exact ⟨rfl, hw⟩
/-- From the second way round to the third one: the first one comes first. -/
def btB (u1 u2 f1 f2 t1 t2 : Int) : Bool := swB u1 u2 f1 f2 || befB (tE u1 u2 f1 (-f2)) (tN u1 u2 f1 (-f2)) (tE t1 t2 f1 (-f2)) (tN t1 t2 f1 (-f2))
def btR (u1 u2 f1 f2 t1 t2 : Int) : Bool := wsB [(u1, u2), (f1, f2), (t1, t2)] && btB u1 u2 f1 f2 t1 t2
theorem ws3 {u1 u2 f1 f2 t1 t2 : Int} (h : wsB [(u1, u2), (f1, f2), (t1, t2)] = true) : goB u1 u2 = true ∧ goB f1 f2 = true ∧ goB t1 t2 = true := by
  unfold wsB at h; simp [goP] at h; exact h
set_option maxRecDepth 100000 in
set_option maxHeartbeats 16000000 in
theorem iBt_any (u1 u2 f1 f2 t1 t2 : Int) (w : World) :
    Calls Try.prog 22 #[.agg #[.int .i64 u1, .int .i64 u2], .agg #[.int .i64 f1, .int .i64 f2], .agg #[.int .i64 t1, .int .i64 t2]] w fun e w' => e = .returned (.bool (btR u1 u2 f1 f2 t1 t2)) ∧ Below w.heap.size w w' := by
  have HR : Hid (btR u1 u2 f1 f2 t1 t2 = (wsB [(u1, u2), (f1, f2), (t1, t2)] && btB u1 u2 f1 f2 t1 t2)) := by show btR _ _ _ _ _ _ = _; rfl
  generalize btR u1 u2 f1 f2 t1 t2 = ret at HR ⊢
  cases hv : wsB [(u1, u2), (f1, f2), (t1, t2)]
  · have HV := Lib.hid hv
    clear hv
    go_enter Try.func22, Try.ntmps22
    go_wp2_with fail
    refine (iWsV_any _ _ [(u1, u2), (f1, f2), (t1, t2)] _ (WRow.of_lits _ (new4 _ _ _ _ _) rfl) (by simp)).mono ?_; rintro e w1 ⟨rfl, hw1⟩
    rw [HV.out]
    obtain ⟨hP1, hQ1, hR1, hB1⟩ := own4 hw1
    go_wp2
    go_ret
    exact ⟨ret_bool (by rw [HR.out, HV.out]; rfl), hB1⟩
  · obtain ⟨gu, gf, gt⟩ := ws3 hv
    obtain ⟨su1, su2⟩ := go_sm3 gu
    obtain ⟨sf1, sf2⟩ := go_sm3 gf
    obtain ⟨st1, st2⟩ := go_sm3 gt
    have hx := Lib.hid (cross_in (tEN_sm su1 su2 sf1 (sm_neg sf2)).1 (tEN_sm su1 su2 sf1 (sm_neg sf2)).2 (tEN_sm st1 st2 sf1 (sm_neg sf2)).1 (tEN_sm st1 st2 sf1 (sm_neg sf2)).2)
    have HS := Lib.hid (And.intro su1 (And.intro su2 (And.intro sf1 (And.intro (sm_neg sf2) (And.intro st1 (And.intro st2 sf2))))))
    have HV := Lib.hid hv
    clear gu gf gt su1 su2 sf1 sf2 st1 st2 hv
    have HR2 : Hid (ret = btB u1 u2 f1 f2 t1 t2) := by show ret = _; rw [HR.out, HV.out]; rfl
    clear HR
    cases hs : swB u1 u2 f1 f2
    · have HC := Lib.hid hs
      go_enter Try.func22, Try.ntmps22
      go_wp2_with fail
      refine (iWsV_any _ _ [(u1, u2), (f1, f2), (t1, t2)] _ (WRow.of_lits _ (new4 _ _ _ _ _) rfl) (by simp)).mono ?_; rintro e w1 ⟨rfl, hw1⟩
      rw [HV.out]
      obtain ⟨hP1, hQ1, hR1, hB1⟩ := own4 hw1
      obtain ⟨cP0_1, cP1_1, fP0_1, fP1_1, zP_1⟩ := blk2 hP1
      obtain ⟨cQ0_1, cQ1_1, fQ0_1, fQ1_1, zQ_1⟩ := blk2 hQ1
      obtain ⟨cR0_1, cR1_1, fR0_1, fR1_1, zR_1⟩ := blk2 hR1
      go_wp2_with fail
      refine (iWF_in _ _ _ HS.out.2.2.2.2.2.2).mono ?_; rintro e w2 ⟨rfl, hw2⟩
      have hP2 := blk_next hP1 hw2
      have hQ2 := blk_next hQ1 hw2
      have hR2 := blk_next hR1 hw2
      have hB2 := bel_next hB1 hw2
      clear cP0_1 cP1_1 fP0_1 fP1_1 zP_1 cQ0_1 cQ1_1 fQ0_1 fQ1_1 zQ_1 cR0_1 cR1_1 fR0_1 fR1_1 zR_1 hP1 hQ1 hR1 hw1
      go_wp2_with fail
      refine wp_region_held_drew (S := (fun w' => w'.heap[w.heap.size]? = some (.cells #[.int .i64 u1, .int .i64 u2] 28) ∧ w'.heap[w.heap.size + 1]? = some (.cells #[.int .i64 f1, .int .i64 f2] 28) ∧ w'.heap[w.heap.size + 1 + 1]? = some (.cells #[.int .i64 t1, .int .i64 t2] 28) ∧ w'.heap[w2.heap.size]? = some (.cells #[.int .i64 f1, .int .i64 (-f2)] 28) ∧ Below w.heap.size w w')) (by kernel_rfl) ⟨blk_old hP2 _, blk_old hQ2 _, blk_old hR2 _, blk_new w2 _, (hB2.alloc hB2.size _).drew⟩ (fun hHeld => ?_)
      obtain ⟨hP_0, hQ_0, hR_0, hK_0, hB_0⟩ := id hHeld
      refine wpAnyH_take (i := 0) (oi := _) (v := ?_) rfl (by kernel_rfl) (by kernel_rfl) (by kernel_rfl) (fun _ _ _ h => h) (Or.inl ⟨by rfl, ?_⟩) (by assumption) ?_
      (rotate_left); (focus (intro wv hSw; (obtain ⟨qP, qQ, qR, qK, qB⟩ := hSw); obtain ⟨_, _, _, _, _⟩ := blk2 qP; obtain ⟨_, _, _, _, _⟩ := blk2 qQ; obtain ⟨_, _, _, _, _⟩ := blk2 qR; obtain ⟨_, _, _, _, _⟩ := blk2 qK; go_simp; (try with_reducible rfl)))
      try simp only [Act.put, List.getElem_toArray, List.getElem_cons_succ, List.getElem_cons_zero, List.setIfInBounds_toArray, List.set_cons_zero, List.set_cons_succ]
      refine wpAnyH_take (i := 1) (oi := _) (v := ?_) rfl (by kernel_rfl) (by kernel_rfl) (by kernel_rfl) (fun _ _ _ h => h) (Or.inl ⟨by rfl, ?_⟩) (by assumption) ?_
      (rotate_left); (focus (intro wv hSw; (obtain ⟨qP, qQ, qR, qK, qB⟩ := hSw); obtain ⟨_, _, _, _, _⟩ := blk2 qP; obtain ⟨_, _, _, _, _⟩ := blk2 qQ; obtain ⟨_, _, _, _, _⟩ := blk2 qR; obtain ⟨_, _, _, _, _⟩ := blk2 qK; go_simp; (try with_reducible rfl)))
      try simp only [Act.put, List.getElem_toArray, List.getElem_cons_succ, List.getElem_cons_zero, List.setIfInBounds_toArray, List.set_cons_zero, List.set_cons_succ]
      refine wpAnyH_ready (rs := [2]) (by kernel_rfl) (by simp) ?_
      refine AllReadyH.cons (o := _) rfl (fun K hK => ?_) (AllReadyH.nil)
      go_simp
      (go_at_call 21; refine (iSW_any _ _ _ _ _).mono ?_; rintro e x0c ⟨rfl, hw_0c⟩)
      refine hK.out _ _ ⟨blk_next hP_0 hw_0c, blk_next hQ_0 hw_0c, blk_next hR_0 hw_0c, blk_next hK_0 hw_0c, bel_next hB_0 hw_0c⟩ (fun hHeld => ?_)
      clear hK K
      try simp only [Act.put, List.getElem_toArray, List.getElem_cons_succ, List.getElem_cons_zero, List.setIfInBounds_toArray, List.set_cons_zero, List.set_cons_succ]
      obtain ⟨hP_0c, hQ_0c, hR_0c, hK_0c, hB_0c⟩ := id hHeld
      refine wpAnyH_take (i := 3) (oi := _) (v := ?_) rfl (by kernel_rfl) (by kernel_rfl) (by kernel_rfl) (fun _ _ _ h => h) (Or.inl ⟨by rfl, ?_⟩) (by assumption) ?_
      (rotate_left); (focus (intro wv hSw; (obtain ⟨qP, qQ, qR, qK, qB⟩ := hSw); obtain ⟨_, _, _, _, _⟩ := blk2 qP; obtain ⟨_, _, _, _, _⟩ := blk2 qQ; obtain ⟨_, _, _, _, _⟩ := blk2 qR; obtain ⟨_, _, _, _, _⟩ := blk2 qK; go_simp; (try with_reducible rfl)))
      try simp only [Act.put, List.getElem_toArray, List.getElem_cons_succ, List.getElem_cons_zero, List.setIfInBounds_toArray, List.set_cons_zero, List.set_cons_succ]
      refine wpAnyH_take (i := 4) (oi := _) (v := ?_) rfl (by kernel_rfl) (by kernel_rfl) (by kernel_rfl) (fun _ _ _ h => h) (Or.inl ⟨by rfl, ?_⟩) (by assumption) ?_
      (rotate_left); (focus (intro wv hSw; (obtain ⟨qP, qQ, qR, qK, qB⟩ := hSw); obtain ⟨_, _, _, _, _⟩ := blk2 qP; obtain ⟨_, _, _, _, _⟩ := blk2 qQ; obtain ⟨_, _, _, _, _⟩ := blk2 qR; obtain ⟨_, _, _, _, _⟩ := blk2 qK; go_simp; (try with_reducible rfl)))
      try simp only [Act.put, List.getElem_toArray, List.getElem_cons_succ, List.getElem_cons_zero, List.setIfInBounds_toArray, List.set_cons_zero, List.set_cons_succ]
      refine wpAnyH_take (i := 5) (oi := _) (v := ?_) rfl (by kernel_rfl) (by kernel_rfl) (by kernel_rfl) (fun _ _ _ h => h) (Or.inl ⟨by rfl, ?_⟩) (by assumption) ?_
      (rotate_left); (focus (intro wv hSw; (obtain ⟨qP, qQ, qR, qK, qB⟩ := hSw); obtain ⟨_, _, _, _, _⟩ := blk2 qP; obtain ⟨_, _, _, _, _⟩ := blk2 qQ; obtain ⟨_, _, _, _, _⟩ := blk2 qR; obtain ⟨_, _, _, _, _⟩ := blk2 qK; go_simp; (try with_reducible rfl)))
      try simp only [Act.put, List.getElem_toArray, List.getElem_cons_succ, List.getElem_cons_zero, List.setIfInBounds_toArray, List.set_cons_zero, List.set_cons_succ]
      refine wpAnyH_take (i := 7) (oi := _) (v := ?_) rfl (by kernel_rfl) (by kernel_rfl) (by kernel_rfl) (fun _ _ _ h => h) (Or.inl ⟨by rfl, ?_⟩) (by assumption) ?_
      (rotate_left); (focus (intro wv hSw; (obtain ⟨qP, qQ, qR, qK, qB⟩ := hSw); obtain ⟨_, _, _, _, _⟩ := blk2 qP; obtain ⟨_, _, _, _, _⟩ := blk2 qQ; obtain ⟨_, _, _, _, _⟩ := blk2 qR; obtain ⟨_, _, _, _, _⟩ := blk2 qK; go_simp; (try with_reducible rfl)))
      try simp only [Act.put, List.getElem_toArray, List.getElem_cons_succ, List.getElem_cons_zero, List.setIfInBounds_toArray, List.set_cons_zero, List.set_cons_succ]
      refine wpAnyH_take (i := 8) (oi := _) (v := ?_) rfl (by kernel_rfl) (by kernel_rfl) (by kernel_rfl) (fun _ _ _ h => h) (Or.inl ⟨by rfl, ?_⟩) (by assumption) ?_
      (rotate_left); (focus (intro wv hSw; (obtain ⟨qP, qQ, qR, qK, qB⟩ := hSw); obtain ⟨_, _, _, _, _⟩ := blk2 qP; obtain ⟨_, _, _, _, _⟩ := blk2 qQ; obtain ⟨_, _, _, _, _⟩ := blk2 qR; obtain ⟨_, _, _, _, _⟩ := blk2 qK; go_simp; (try with_reducible rfl)))
      try simp only [Act.put, List.getElem_toArray, List.getElem_cons_succ, List.getElem_cons_zero, List.setIfInBounds_toArray, List.set_cons_zero, List.set_cons_succ]
      refine wpAnyH_ready (rs := [6]) (by kernel_rfl) (by simp) ?_
      refine AllReadyH.cons (o := _) rfl (fun K hK => ?_) (AllReadyH.nil)
      go_simp
      (go_at_call 44; refine (iWT_in _ _ _ _ _ HS.out.1 HS.out.2.1 HS.out.2.2.1 HS.out.2.2.2.1).mono ?_; rintro e x0cc ⟨rfl, hw_0cc⟩)
      refine hK.out _ _ ⟨blk_next hP_0c hw_0cc, blk_next hQ_0c hw_0cc, blk_next hR_0c hw_0cc, blk_next hK_0c hw_0cc, bel_next hB_0c hw_0cc⟩ (fun hHeld => ?_)
      clear hK K
      try simp only [Act.put, List.getElem_toArray, List.getElem_cons_succ, List.getElem_cons_zero, List.setIfInBounds_toArray, List.set_cons_zero, List.set_cons_succ]
      obtain ⟨hP_0cc, hQ_0cc, hR_0cc, hK_0cc, hB_0cc⟩ := id hHeld
      refine wpAnyH_ready (rs := [9]) (by kernel_rfl) (by simp) ?_
      refine AllReadyH.cons (o := _) rfl (fun K hK => ?_) (AllReadyH.nil)
      go_simp
      (go_at_call 44; refine (iWT_in _ _ _ _ _ HS.out.2.2.2.2.1 HS.out.2.2.2.2.2.1 HS.out.2.2.1 HS.out.2.2.2.1).mono ?_; rintro e x0ccc ⟨rfl, hw_0ccc⟩)
      refine hK.out _ _ ⟨blk_next hP_0cc hw_0ccc, blk_next hQ_0cc hw_0ccc, blk_next hR_0cc hw_0ccc, blk_next hK_0cc hw_0ccc, bel_next hB_0cc hw_0ccc⟩ (fun hHeld => ?_)
      clear hK K
      try simp only [Act.put, List.getElem_toArray, List.getElem_cons_succ, List.getElem_cons_zero, List.setIfInBounds_toArray, List.set_cons_zero, List.set_cons_succ]
      obtain ⟨hP_0ccc, hQ_0ccc, hR_0ccc, hK_0ccc, hB_0ccc⟩ := id hHeld
      refine wpAnyH_ready (rs := [10]) (by kernel_rfl) (by simp) ?_
      refine AllReadyH.cons (o := _) rfl (fun K hK => ?_) (AllReadyH.nil)
      go_simp
      (go_at_call 41; refine (iBef_any _ _ _ _ _ hx.out).mono ?_; rintro e x0cccc ⟨rfl, hw_0cccc⟩)
      refine hK.out _ _ ⟨blk_next hP_0ccc hw_0cccc, blk_next hQ_0ccc hw_0cccc, blk_next hR_0ccc hw_0cccc, blk_next hK_0ccc hw_0cccc, bel_next hB_0ccc hw_0cccc⟩ (fun hHeld => ?_)
      clear hK K
      try simp only [Act.put, List.getElem_toArray, List.getElem_cons_succ, List.getElem_cons_zero, List.setIfInBounds_toArray, List.set_cons_zero, List.set_cons_succ]
      obtain ⟨hP_0cccc, hQ_0cccc, hR_0cccc, hK_0cccc, hB_0cccc⟩ := id hHeld
      refine wpAnyH_take (i := 11) (oi := _) (v := ?_) rfl (by kernel_rfl) (by kernel_rfl) (by kernel_rfl) (fun _ _ _ h => h) (Or.inl ⟨by rfl, ?_⟩) (by assumption) ?_
      (rotate_left); (focus (intro wv hSw; (obtain ⟨qP, qQ, qR, qK, qB⟩ := hSw); obtain ⟨_, _, _, _, _⟩ := blk2 qP; obtain ⟨_, _, _, _, _⟩ := blk2 qQ; obtain ⟨_, _, _, _, _⟩ := blk2 qR; obtain ⟨_, _, _, _, _⟩ := blk2 qK; go_simp; (try with_reducible rfl)))
      try simp only [Act.put, List.getElem_toArray, List.getElem_cons_succ, List.getElem_cons_zero, List.setIfInBounds_toArray, List.set_cons_zero, List.set_cons_succ]
      refine wpAnyH_take (i := 12) (oi := _) (v := ?_) rfl (by kernel_rfl) (by kernel_rfl) (by kernel_rfl) (fun _ _ _ h => h) (Or.inl ⟨by rfl, ?_⟩) (by assumption) ?_
      (rotate_left); (focus (intro wv hSw; (obtain ⟨qP, qQ, qR, qK, qB⟩ := hSw); obtain ⟨_, _, _, _, _⟩ := blk2 qP; obtain ⟨_, _, _, _, _⟩ := blk2 qQ; obtain ⟨_, _, _, _, _⟩ := blk2 qR; obtain ⟨_, _, _, _, _⟩ := blk2 qK; go_simp; (try with_reducible rfl)))
      try simp only [Act.put, List.getElem_toArray, List.getElem_cons_succ, List.getElem_cons_zero, List.setIfInBounds_toArray, List.set_cons_zero, List.set_cons_succ]
      refine wpAnyH_done (by kernel_rfl) ?_ _
      go_wp2_with fail
      go_ret
      exact ⟨ret_bool (by rw [HR2.out]; unfold btB; rw [HC.out]; simp), hB_0cccc⟩
    · have HC := Lib.hid hs
      go_enter Try.func22, Try.ntmps22
      go_wp2_with fail
      refine (iWsV_any _ _ [(u1, u2), (f1, f2), (t1, t2)] _ (WRow.of_lits _ (new4 _ _ _ _ _) rfl) (by simp)).mono ?_; rintro e w1 ⟨rfl, hw1⟩
      rw [HV.out]
      obtain ⟨hP1, hQ1, hR1, hB1⟩ := own4 hw1
      obtain ⟨cP0_1, cP1_1, fP0_1, fP1_1, zP_1⟩ := blk2 hP1
      obtain ⟨cQ0_1, cQ1_1, fQ0_1, fQ1_1, zQ_1⟩ := blk2 hQ1
      obtain ⟨cR0_1, cR1_1, fR0_1, fR1_1, zR_1⟩ := blk2 hR1
      go_wp2_with fail
      refine (iWF_in _ _ _ HS.out.2.2.2.2.2.2).mono ?_; rintro e w2 ⟨rfl, hw2⟩
      have hP2 := blk_next hP1 hw2
      have hQ2 := blk_next hQ1 hw2
      have hR2 := blk_next hR1 hw2
      have hB2 := bel_next hB1 hw2
      clear cP0_1 cP1_1 fP0_1 fP1_1 zP_1 cQ0_1 cQ1_1 fQ0_1 fQ1_1 zQ_1 cR0_1 cR1_1 fR0_1 fR1_1 zR_1 hP1 hQ1 hR1 hw1
      go_wp2_with fail
      refine wp_region_held_drew (S := (fun w' => w'.heap[w.heap.size]? = some (.cells #[.int .i64 u1, .int .i64 u2] 28) ∧ w'.heap[w.heap.size + 1]? = some (.cells #[.int .i64 f1, .int .i64 f2] 28) ∧ w'.heap[w.heap.size + 1 + 1]? = some (.cells #[.int .i64 t1, .int .i64 t2] 28) ∧ w'.heap[w2.heap.size]? = some (.cells #[.int .i64 f1, .int .i64 (-f2)] 28) ∧ Below w.heap.size w w')) (by kernel_rfl) ⟨blk_old hP2 _, blk_old hQ2 _, blk_old hR2 _, blk_new w2 _, (hB2.alloc hB2.size _).drew⟩ (fun hHeld => ?_)
      obtain ⟨hP_0, hQ_0, hR_0, hK_0, hB_0⟩ := id hHeld
      refine wpAnyH_take (i := 0) (oi := _) (v := ?_) rfl (by kernel_rfl) (by kernel_rfl) (by kernel_rfl) (fun _ _ _ h => h) (Or.inl ⟨by rfl, ?_⟩) (by assumption) ?_
      (rotate_left); (focus (intro wv hSw; (obtain ⟨qP, qQ, qR, qK, qB⟩ := hSw); obtain ⟨_, _, _, _, _⟩ := blk2 qP; obtain ⟨_, _, _, _, _⟩ := blk2 qQ; obtain ⟨_, _, _, _, _⟩ := blk2 qR; obtain ⟨_, _, _, _, _⟩ := blk2 qK; go_simp; (try with_reducible rfl)))
      try simp only [Act.put, List.getElem_toArray, List.getElem_cons_succ, List.getElem_cons_zero, List.setIfInBounds_toArray, List.set_cons_zero, List.set_cons_succ]
      refine wpAnyH_take (i := 1) (oi := _) (v := ?_) rfl (by kernel_rfl) (by kernel_rfl) (by kernel_rfl) (fun _ _ _ h => h) (Or.inl ⟨by rfl, ?_⟩) (by assumption) ?_
      (rotate_left); (focus (intro wv hSw; (obtain ⟨qP, qQ, qR, qK, qB⟩ := hSw); obtain ⟨_, _, _, _, _⟩ := blk2 qP; obtain ⟨_, _, _, _, _⟩ := blk2 qQ; obtain ⟨_, _, _, _, _⟩ := blk2 qR; obtain ⟨_, _, _, _, _⟩ := blk2 qK; go_simp; (try with_reducible rfl)))
      try simp only [Act.put, List.getElem_toArray, List.getElem_cons_succ, List.getElem_cons_zero, List.setIfInBounds_toArray, List.set_cons_zero, List.set_cons_succ]
      refine wpAnyH_ready (rs := [2]) (by kernel_rfl) (by simp) ?_
      refine AllReadyH.cons (o := _) rfl (fun K hK => ?_) (AllReadyH.nil)
      go_simp
      (go_at_call 21; refine (iSW_any _ _ _ _ _).mono ?_; rintro e x0c ⟨rfl, hw_0c⟩)
      refine hK.out _ _ ⟨blk_next hP_0 hw_0c, blk_next hQ_0 hw_0c, blk_next hR_0 hw_0c, blk_next hK_0 hw_0c, bel_next hB_0 hw_0c⟩ (fun hHeld => ?_)
      clear hK K
      try simp only [Act.put, List.getElem_toArray, List.getElem_cons_succ, List.getElem_cons_zero, List.setIfInBounds_toArray, List.set_cons_zero, List.set_cons_succ]
      obtain ⟨hP_0c, hQ_0c, hR_0c, hK_0c, hB_0c⟩ := id hHeld
      refine wpAnyH_take (i := 3) (oi := _) (v := ?_) rfl (by kernel_rfl) (by kernel_rfl) (by kernel_rfl) (fun _ _ _ h => h) (Or.inl ⟨by rfl, ?_⟩) (by assumption) ?_
      (rotate_left); (focus (intro wv hSw; (obtain ⟨qP, qQ, qR, qK, qB⟩ := hSw); obtain ⟨_, _, _, _, _⟩ := blk2 qP; obtain ⟨_, _, _, _, _⟩ := blk2 qQ; obtain ⟨_, _, _, _, _⟩ := blk2 qR; obtain ⟨_, _, _, _, _⟩ := blk2 qK; go_simp; (try with_reducible rfl)))
      try simp only [Act.put, List.getElem_toArray, List.getElem_cons_succ, List.getElem_cons_zero, List.setIfInBounds_toArray, List.set_cons_zero, List.set_cons_succ]
      refine wpAnyH_take (i := 4) (oi := _) (v := undef) rfl (by kernel_rfl) (by kernel_rfl) (by kernel_rfl) (fun _ _ _ h => h) (Or.inr ⟨by kernel_rfl, rfl⟩) (by assumption) ?_
      try simp only [Act.put, List.getElem_toArray, List.getElem_cons_succ, List.getElem_cons_zero, List.setIfInBounds_toArray, List.set_cons_zero, List.set_cons_succ]
      refine wpAnyH_take (i := 5) (oi := _) (v := undef) rfl (by kernel_rfl) (by kernel_rfl) (by kernel_rfl) (fun _ _ _ h => h) (Or.inr ⟨by kernel_rfl, rfl⟩) (by assumption) ?_
      try simp only [Act.put, List.getElem_toArray, List.getElem_cons_succ, List.getElem_cons_zero, List.setIfInBounds_toArray, List.set_cons_zero, List.set_cons_succ]
      refine wpAnyH_take (i := 6) (oi := _) (v := undef) rfl (by kernel_rfl) (by kernel_rfl) (by kernel_rfl) (fun _ _ _ h => h) (Or.inr ⟨by kernel_rfl, rfl⟩) (by assumption) ?_
      try simp only [Act.put, List.getElem_toArray, List.getElem_cons_succ, List.getElem_cons_zero, List.setIfInBounds_toArray, List.set_cons_zero, List.set_cons_succ]
      refine wpAnyH_take (i := 7) (oi := _) (v := undef) rfl (by kernel_rfl) (by kernel_rfl) (by kernel_rfl) (fun _ _ _ h => h) (Or.inr ⟨by kernel_rfl, rfl⟩) (by assumption) ?_
      try simp only [Act.put, List.getElem_toArray, List.getElem_cons_succ, List.getElem_cons_zero, List.setIfInBounds_toArray, List.set_cons_zero, List.set_cons_succ]
      refine wpAnyH_take (i := 8) (oi := _) (v := undef) rfl (by kernel_rfl) (by kernel_rfl) (by kernel_rfl) (fun _ _ _ h => h) (Or.inr ⟨by kernel_rfl, rfl⟩) (by assumption) ?_
      try simp only [Act.put, List.getElem_toArray, List.getElem_cons_succ, List.getElem_cons_zero, List.setIfInBounds_toArray, List.set_cons_zero, List.set_cons_succ]
      refine wpAnyH_take (i := 9) (oi := _) (v := undef) rfl (by kernel_rfl) (by kernel_rfl) (by kernel_rfl) (fun _ _ _ h => h) (Or.inr ⟨by kernel_rfl, rfl⟩) (by assumption) ?_
      try simp only [Act.put, List.getElem_toArray, List.getElem_cons_succ, List.getElem_cons_zero, List.setIfInBounds_toArray, List.set_cons_zero, List.set_cons_succ]
      refine wpAnyH_take (i := 10) (oi := _) (v := undef) rfl (by kernel_rfl) (by kernel_rfl) (by kernel_rfl) (fun _ _ _ h => h) (Or.inr ⟨by kernel_rfl, rfl⟩) (by assumption) ?_
      try simp only [Act.put, List.getElem_toArray, List.getElem_cons_succ, List.getElem_cons_zero, List.setIfInBounds_toArray, List.set_cons_zero, List.set_cons_succ]
      refine wpAnyH_take (i := 11) (oi := _) (v := ?_) rfl (by kernel_rfl) (by kernel_rfl) (by kernel_rfl) (fun _ _ _ h => h) (Or.inl ⟨by rfl, ?_⟩) (by assumption) ?_
      (rotate_left); (focus (intro wv hSw; (obtain ⟨qP, qQ, qR, qK, qB⟩ := hSw); obtain ⟨_, _, _, _, _⟩ := blk2 qP; obtain ⟨_, _, _, _, _⟩ := blk2 qQ; obtain ⟨_, _, _, _, _⟩ := blk2 qR; obtain ⟨_, _, _, _, _⟩ := blk2 qK; go_simp; (try with_reducible rfl)))
      try simp only [Act.put, List.getElem_toArray, List.getElem_cons_succ, List.getElem_cons_zero, List.setIfInBounds_toArray, List.set_cons_zero, List.set_cons_succ]
      refine wpAnyH_take (i := 12) (oi := _) (v := ?_) rfl (by kernel_rfl) (by kernel_rfl) (by kernel_rfl) (fun _ _ _ h => h) (Or.inl ⟨by rfl, ?_⟩) (by assumption) ?_
      (rotate_left); (focus (intro wv hSw; (obtain ⟨qP, qQ, qR, qK, qB⟩ := hSw); obtain ⟨_, _, _, _, _⟩ := blk2 qP; obtain ⟨_, _, _, _, _⟩ := blk2 qQ; obtain ⟨_, _, _, _, _⟩ := blk2 qR; obtain ⟨_, _, _, _, _⟩ := blk2 qK; go_simp; (try with_reducible rfl)))
      try simp only [Act.put, List.getElem_toArray, List.getElem_cons_succ, List.getElem_cons_zero, List.setIfInBounds_toArray, List.set_cons_zero, List.set_cons_succ]
      refine wpAnyH_done (by kernel_rfl) ?_ _
      go_wp2_with fail
      go_ret
      exact ⟨ret_bool (by rw [HR2.out]; unfold btB; rw [HC.out]; rfl), hB_0c⟩
end Go.Proofs.Ytjdaeijhhnaimab
