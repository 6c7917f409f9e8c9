/- Contracts of chapter 2: between two ways. -/
import Derived.Test.YtbegajmdadkknabWs
import Derived.Test.YtbegajmdadkknabWc
import Derived.Test.YtbegajmdadkknabHlp2
namespace Go.Proofs.Ytbegajmdadkknab
open Go.ChangeShapes Go.WideShapes Go.ChangeAt Go.RowKit
set_option linter.unusedSimpArgs false
set_option linter.unusedVariables false
set_option linter.unnecessarySimpa false

theorem sm_mul {x y : Int} (hx : Sm 1000 x) (hy : Sm 1000 y) : Sm 1000000 (x * y) := by
  have := mul_bd hx.1 hx.2 hy.1 hy.2 (by omega); unfold Sm; omega
theorem sm_neg {x : Int} (hx : Sm 1000 x) : Sm 1000 (-x) := by unfold Sm at *; omega
theorem go_sm3 {a b : Int} (h : goB a b = true) : Sm 1000 a ∧ Sm 1000 b := by have := goB_iff.1 h; unfold Sm; omega
def tE (a b c d : Int) : Int := a * c - b * d
def tN (a b c d : Int) : Int := a * d + b * c
theorem tEN_sm {a b c d : Int} (ha : Sm 1000 a) (hb : Sm 1000 b) (hc : Sm 1000 c) (hd : Sm 1000 d) : Sm 1000000000 (tE a b c d) ∧ Sm 1000000000 (tN a b c d) := by
  have h1 := sm_mul ha hc; have h2 := sm_mul hb hd; have h3 := sm_mul ha hd; have h4 := sm_mul hb hc
  unfold tE tN Sm at *; omega
theorem iWF_in (a b : Int) (w : World) (hb : Sm 1000 b) : Calls Try.prog 51 #[.agg #[.int .i64 a, .int .i64 b]] w fun e w' => e = .returned (.agg #[.int .i64 a, .int .i64 (-b)]) ∧ Below w.heap.size w w' := by
  refine (iWF_any a b w).mono ?_
  rintro e w' ⟨rfl, hw⟩
  rw [w64_in (by have := hb.2; omega) (by have := hb.1; omega)]
  exact ⟨rfl, hw⟩
theorem iWT_in (a b c d : Int) (w : World) (ha : Sm 1000 a) (hb : Sm 1000 b) (hc : Sm 1000 c) (hd : Sm 1000 d) : Calls Try.prog 52 #[.agg #[.int .i64 a, .int .i64 b], .agg #[.int .i64 c, .int .i64 d]] w fun e w' => e = .returned (.agg #[.int .i64 (tE a b c d), .int .i64 (tN a b c d)]) ∧ Below w.heap.size w w' := by
  refine (iWT_any a b c d w).mono ?_
  rintro e w' ⟨rfl, hw⟩
  have h1 := sm_mul ha hc; have h2 := sm_mul hb hd; have h3 := sm_mul ha hd; have h4 := sm_mul hb hc
  unfold Sm at h1 h2 h3 h4
  rw [w64_in (x := a * c) (by omega) (by omega), w64_in (x := b * d) (by omega) (by omega), w64_in (x := a * d) (by omega) (by omega), w64_in (x := b * c) (by omega) (by omega), w64_in (x := a * c - b * d) (by omega) (by omega), w64_in (x := a * d + b * c) (by omega) (by omega)]
  exact ⟨rfl, hw⟩
theorem sWF_in (a b : Int) (w : World) (hb : Sm 1000 b) : Calls Try.prog 54 #[.agg #[.int .i64 a, .int .i64 b]] w fun e w' => e = .returned (.agg #[.int .i64 a, .int .i64 (-b)]) ∧ Below w.heap.size w w' := by
  refine (sWF_any a b w).mono ?_
  rintro e w' ⟨rfl, hw⟩
  rw [w64_in (by have := hb.2; omega) (by have := hb.1; omega)]
  exact ⟨rfl, hw⟩
theorem sWT_in (a b c d : Int) (w : World) (ha : Sm 1000 a) (hb : Sm 1000 b) (hc : Sm 1000 c) (hd : Sm 1000 d) : Calls Try.prog 53 #[.agg #[.int .i64 a, .int .i64 b], .agg #[.int .i64 c, .int .i64 d]] w fun e w' => e = .returned (.agg #[.int .i64 (tE a b c d), .int .i64 (tN a b c d)]) ∧ Below w.heap.size w w' := by
  refine (sWT_any a b c d w).mono ?_
  rintro e w' ⟨rfl, hw⟩
  have h1 := sm_mul ha hc; have h2 := sm_mul hb hd; have h3 := sm_mul ha hd; have h4 := sm_mul hb hc
  unfold Sm at h1 h2 h3 h4
  rw [w64_in (x := a * c) (by omega) (by omega), w64_in (x := b * d) (by omega) (by omega), w64_in (x := a * d) (by omega) (by omega), w64_in (x := b * c) (by omega) (by omega), w64_in (x := a * c - b * d) (by omega) (by omega), w64_in (x := a * d + b * c) (by omega) (by omega)]
  exact ⟨rfl, hw⟩
/-- From the second way round to the third one: the first one comes first. -/
def btB (u1 u2 f1 f2 t1 t2 : Int) : Bool := swB u1 u2 f1 f2 || befB (tE u1 u2 f1 (-f2)) (tN u1 u2 f1 (-f2)) (tE t1 t2 f1 (-f2)) (tN t1 t2 f1 (-f2))
def btR (u1 u2 f1 f2 t1 t2 : Int) : Bool := wsB [(u1, u2), (f1, f2), (t1, t2)] && btB u1 u2 f1 f2 t1 t2
theorem ws3 {u1 u2 f1 f2 t1 t2 : Int} (h : wsB [(u1, u2), (f1, f2), (t1, t2)] = true) : goB u1 u2 = true ∧ goB f1 f2 = true ∧ goB t1 t2 = true := by
  unfold wsB at h; simp [goP] at h; exact h
set_option maxRecDepth 100000 in
set_option maxHeartbeats 16000000 in
theorem iBt_any (u1 u2 f1 f2 t1 t2 : Int) (w : World) :
    Calls Try.prog 25 #[.agg #[.int .i64 u1, .int .i64 u2], .agg #[.int .i64 f1, .int .i64 f2], .agg #[.int .i64 t1, .int .i64 t2]] w fun e w' => e = .returned (.bool (btR u1 u2 f1 f2 t1 t2)) ∧ Below w.heap.size w w' := by
  have HR : Hid (btR u1 u2 f1 f2 t1 t2 = (wsB [(u1, u2), (f1, f2), (t1, t2)] && btB u1 u2 f1 f2 t1 t2)) := by show btR _ _ _ _ _ _ = _; rfl
  generalize btR u1 u2 f1 f2 t1 t2 = ret at HR ⊢
  cases hv : wsB [(u1, u2), (f1, f2), (t1, t2)]
  · have HV := Lib.hid hv
    clear hv
    go_enter Try.func25, Try.ntmps25
    go_wp2_with fail
    refine (iWsV_any _ _ [(u1, u2), (f1, f2), (t1, t2)] _ (WRow.of_lits _ (new4 _ _ _ _ _) rfl) (by simp)).mono ?_; rintro e w1 ⟨rfl, hw1⟩
    rw [HV.out]
    obtain ⟨hP1, hQ1, hR1, hB1⟩ := own4 hw1
    go_wp2
    go_ret
    exact ⟨ret_bool (by rw [HR.out, HV.out]; rfl), hB1⟩
  · obtain ⟨gu, gf, gt⟩ := ws3 hv
    obtain ⟨su1, su2⟩ := go_sm3 gu
    obtain ⟨sf1, sf2⟩ := go_sm3 gf
    obtain ⟨st1, st2⟩ := go_sm3 gt
    have hx := Lib.hid (cross_in (tEN_sm su1 su2 sf1 (sm_neg sf2)).1 (tEN_sm su1 su2 sf1 (sm_neg sf2)).2 (tEN_sm st1 st2 sf1 (sm_neg sf2)).1 (tEN_sm st1 st2 sf1 (sm_neg sf2)).2)
    have HS := Lib.hid (And.intro su1 (And.intro su2 (And.intro sf1 (And.intro (sm_neg sf2) (And.intro st1 (And.intro st2 sf2))))))
    have HV := Lib.hid hv
    clear gu gf gt su1 su2 sf1 sf2 st1 st2 hv
    have HR2 : Hid (ret = btB u1 u2 f1 f2 t1 t2) := by show ret = _; rw [HR.out, HV.out]; rfl
    clear HR
    cases hs : swB u1 u2 f1 f2
    · have HC := Lib.hid hs
      go_enter Try.func25, Try.ntmps25
      go_wp2_with fail
      refine (iWsV_any _ _ [(u1, u2), (f1, f2), (t1, t2)] _ (WRow.of_lits _ (new4 _ _ _ _ _) rfl) (by simp)).mono ?_; rintro e w1 ⟨rfl, hw1⟩
      rw [HV.out]
      obtain ⟨hP1, hQ1, hR1, hB1⟩ := own4 hw1
      obtain ⟨cP0_1, cP1_1, fP0_1, fP1_1, zP_1⟩ := blk2 hP1
      obtain ⟨cQ0_1, cQ1_1, fQ0_1, fQ1_1, zQ_1⟩ := blk2 hQ1
      obtain ⟨cR0_1, cR1_1, fR0_1, fR1_1, zR_1⟩ := blk2 hR1
      go_wp2_with fail
      refine (iWF_in _ _ _ HS.out.2.2.2.2.2.2).mono ?_; rintro e w2 ⟨rfl, hw2⟩
      have hP2 := blk_next hP1 hw2
      have hQ2 := blk_next hQ1 hw2
      have hR2 := blk_next hR1 hw2
      have hB2 := bel_next hB1 hw2
      clear cP0_1 cP1_1 fP0_1 fP1_1 zP_1 cQ0_1 cQ1_1 fQ0_1 fQ1_1 zQ_1 cR0_1 cR1_1 fR0_1 fR1_1 zR_1 hP1 hQ1 hR1 hw1
      go_wp2_with fail
      refine wp_region_held_drew (S := (fun w' => w'.heap[w.heap.size]? = some (.cells #[.int .i64 u1, .int .i64 u2] 24) ∧ w'.heap[w.heap.size + 1]? = some (.cells #[.int .i64 f1, .int .i64 f2] 24) ∧ w'.heap[w.heap.size + 1 + 1]? = some (.cells #[.int .i64 t1, .int .i64 t2] 24) ∧ w'.heap[w2.heap.size]? = some (.cells #[.int .i64 f1, .int .i64 (-f2)] 24) ∧ Below w.heap.size w w')) (by kernel_rfl) ⟨blk_old hP2 _, blk_old hQ2 _, blk_old hR2 _, blk_new w2 _, (hB2.alloc hB2.size _).drew⟩ (fun hHeld => ?_)
      obtain ⟨hP_0, hQ_0, hR_0, hK_0, hB_0⟩ := id hHeld
      refine wpAnyH_take (i := 0) (oi := _) (v := ?_) rfl (by kernel_rfl) (by kernel_rfl) (by kernel_rfl) (fun _ _ _ h => h) (Or.inl ⟨by rfl, ?_⟩) (by assumption) ?_
      (rotate_left); (focus (intro wv hSw; (obtain ⟨qP, qQ, qR, qK, qB⟩ := hSw); obtain ⟨_, _, _, _, _⟩ := blk2 qP; obtain ⟨_, _, _, _, _⟩ := blk2 qQ; obtain ⟨_, _, _, _, _⟩ := blk2 qR; obtain ⟨_, _, _, _, _⟩ := blk2 qK; go_simp; (try with_reducible rfl)))
      try simp only [Act.put, List.getElem_toArray, List.getElem_cons_succ, List.getElem_cons_zero, List.setIfInBounds_toArray, List.set_cons_zero, List.set_cons_succ]
      refine wpAnyH_take (i := 1) (oi := _) (v := ?_) rfl (by kernel_rfl) (by kernel_rfl) (by kernel_rfl) (fun _ _ _ h => h) (Or.inl ⟨by rfl, ?_⟩) (by assumption) ?_
      (rotate_left); (focus (intro wv hSw; (obtain ⟨qP, qQ, qR, qK, qB⟩ := hSw); obtain ⟨_, _, _, _, _⟩ := blk2 qP; obtain ⟨_, _, _, _, _⟩ := blk2 qQ; obtain ⟨_, _, _, _, _⟩ := blk2 qR; obtain ⟨_, _, _, _, _⟩ := blk2 qK; go_simp; (try with_reducible rfl)))
      try simp only [Act.put, List.getElem_toArray, List.getElem_cons_succ, List.getElem_cons_zero, List.setIfInBounds_toArray, List.set_cons_zero, List.set_cons_succ]
      refine wpAnyH_ready (rs := [2]) (by kernel_rfl) (by simp) ?_
      refine AllReadyH.cons (o := _) rfl (fun K hK => ?_) (AllReadyH.nil)
      go_simp
      (go_at_call 17; refine (iSW_any _ _ _ _ _).mono ?_; rintro e x0c ⟨rfl, hw_0c⟩)
      refine hK.out _ _ ⟨blk_next hP_0 hw_0c, blk_next hQ_0 hw_0c, blk_next hR_0 hw_0c, blk_next hK_0 hw_0c, bel_next hB_0 hw_0c⟩ (fun hHeld => ?_)
      clear hK K
      try simp only [Act.put, List.getElem_toArray, List.getElem_cons_succ, List.getElem_cons_zero, List.setIfInBounds_toArray, List.set_cons_zero, List.set_cons_succ]
      obtain ⟨hP_0c, hQ_0c, hR_0c, hK_0c, hB_0c⟩ := id hHeld
      refine wpAnyH_take (i := 3) (oi := _) (v := ?_) rfl (by kernel_rfl) (by kernel_rfl) (by kernel_rfl) (fun _ _ _ h => h) (Or.inl ⟨by rfl, ?_⟩) (by assumption) ?_
      (rotate_left); (focus (intro wv hSw; (obtain ⟨qP, qQ, qR, qK, qB⟩ := hSw); obtain ⟨_, _, _, _, _⟩ := blk2 qP; obtain ⟨_, _, _, _, _⟩ := blk2 qQ; obtain ⟨_, _, _, _, _⟩ := blk2 qR; obtain ⟨_, _, _, _, _⟩ := blk2 qK; go_simp; (try with_reducible rfl)))
      try simp only [Act.put, List.getElem_toArray, List.getElem_cons_succ, List.getElem_cons_zero, List.setIfInBounds_toArray, List.set_cons_zero, List.set_cons_succ]
      refine wpAnyH_take (i := 4) (oi := _) (v := ?_) rfl (by kernel_rfl) (by kernel_rfl) (by kernel_rfl) (fun _ _ _ h => h) (Or.inl ⟨by rfl, ?_⟩) (by assumption) ?_
      (rotate_left); (focus (intro wv hSw; (obtain ⟨qP, qQ, qR, qK, qB⟩ := hSw); obtain ⟨_, _, _, _, _⟩ := blk2 qP; obtain ⟨_, _, _, _, _⟩ := blk2 qQ; obtain ⟨_, _, _, _, _⟩ := blk2 qR; obtain ⟨_, _, _, _, _⟩ := blk2 qK; go_simp; (try with_reducible rfl)))
      try simp only [Act.put, List.getElem_toArray, List.getElem_cons_succ, List.getElem_cons_zero, List.setIfInBounds_toArray, List.set_cons_zero, List.set_cons_succ]
      refine wpAnyH_take (i := 5) (oi := _) (v := ?_) rfl (by kernel_rfl) (by kernel_rfl) (by kernel_rfl) (fun _ _ _ h => h) (Or.inl ⟨by rfl, ?_⟩) (by assumption) ?_
      (rotate_left); (focus (intro wv hSw; (obtain ⟨qP, qQ, qR, qK, qB⟩ := hSw); obtain ⟨_, _, _, _, _⟩ := blk2 qP; obtain ⟨_, _, _, _, _⟩ := blk2 qQ; obtain ⟨_, _, _, _, _⟩ := blk2 qR; obtain ⟨_, _, _, _, _⟩ := blk2 qK; go_simp; (try with_reducible rfl)))
      try simp only [Act.put, List.getElem_toArray, List.getElem_cons_succ, List.getElem_cons_zero, List.setIfInBounds_toArray, List.set_cons_zero, List.set_cons_succ]
      refine wpAnyH_take (i := 7) (oi := _) (v := ?_) rfl (by kernel_rfl) (by kernel_rfl) (by kernel_rfl) (fun _ _ _ h => h) (Or.inl ⟨by rfl, ?_⟩) (by assumption) ?_
      (rotate_left); (focus (intro wv hSw; (obtain ⟨qP, qQ, qR, qK, qB⟩ := hSw); obtain ⟨_, _, _, _, _⟩ := blk2 qP; obtain ⟨_, _, _, _, _⟩ := blk2 qQ; obtain ⟨_, _, _, _, _⟩ := blk2 qR; obtain ⟨_, _, _, _, _⟩ := blk2 qK; go_simp; (try with_reducible rfl)))
      try simp only [Act.put, List.getElem_toArray, List.getElem_cons_succ, List.getElem_cons_zero, List.setIfInBounds_toArray, List.set_cons_zero, List.set_cons_succ]
      refine wpAnyH_take (i := 8) (oi := _) (v := ?_) rfl (by kernel_rfl) (by kernel_rfl) (by kernel_rfl) (fun _ _ _ h => h) (Or.inl ⟨by rfl, ?_⟩) (by assumption) ?_
      (rotate_left); (focus (intro wv hSw; (obtain ⟨qP, qQ, qR, qK, qB⟩ := hSw); obtain ⟨_, _, _, _, _⟩ := blk2 qP; obtain ⟨_, _, _, _, _⟩ := blk2 qQ; obtain ⟨_, _, _, _, _⟩ := blk2 qR; obtain ⟨_, _, _, _, _⟩ := blk2 qK; go_simp; (try with_reducible rfl)))
      try simp only [Act.put, List.getElem_toArray, List.getElem_cons_succ, List.getElem_cons_zero, List.setIfInBounds_toArray, List.set_cons_zero, List.set_cons_succ]
      refine wpAnyH_ready (rs := [6]) (by kernel_rfl) (by simp) ?_
      refine AllReadyH.cons (o := _) rfl (fun K hK => ?_) (AllReadyH.nil)
      go_simp
      (go_at_call 52; refine (iWT_in _ _ _ _ _ HS.out.1 HS.out.2.1 HS.out.2.2.1 HS.out.2.2.2.1).mono ?_; rintro e x0cc ⟨rfl, hw_0cc⟩)
      refine hK.out _ _ ⟨blk_next hP_0c hw_0cc, blk_next hQ_0c hw_0cc, blk_next hR_0c hw_0cc, blk_next hK_0c hw_0cc, bel_next hB_0c hw_0cc⟩ (fun hHeld => ?_)
      clear hK K
      try simp only [Act.put, List.getElem_toArray, List.getElem_cons_succ, List.getElem_cons_zero, List.setIfInBounds_toArray, List.set_cons_zero, List.set_cons_succ]
      obtain ⟨hP_0cc, hQ_0cc, hR_0cc, hK_0cc, hB_0cc⟩ := id hHeld
      refine wpAnyH_ready (rs := [9]) (by kernel_rfl) (by simp) ?_
      refine AllReadyH.cons (o := _) rfl (fun K hK => ?_) (AllReadyH.nil)
      go_simp
      (go_at_call 52; refine (iWT_in _ _ _ _ _ HS.out.2.2.2.2.1 HS.out.2.2.2.2.2.1 HS.out.2.2.1 HS.out.2.2.2.1).mono ?_; rintro e x0ccc ⟨rfl, hw_0ccc⟩)
      refine hK.out _ _ ⟨blk_next hP_0cc hw_0ccc, blk_next hQ_0cc hw_0ccc, blk_next hR_0cc hw_0ccc, blk_next hK_0cc hw_0ccc, bel_next hB_0cc hw_0ccc⟩ (fun hHeld => ?_)
      clear hK K
      try simp only [Act.put, List.getElem_toArray, List.getElem_cons_succ, List.getElem_cons_zero, List.setIfInBounds_toArray, List.set_cons_zero, List.set_cons_succ]
      obtain ⟨hP_0ccc, hQ_0ccc, hR_0ccc, hK_0ccc, hB_0ccc⟩ := id hHeld
      refine wpAnyH_ready (rs := [10]) (by kernel_rfl) (by simp) ?_
      refine AllReadyH.cons (o := _) rfl (fun K hK => ?_) (AllReadyH.nil)
      go_simp
      (go_at_call 42; refine (iBef_any _ _ _ _ _ hx.out).mono ?_; rintro e x0cccc ⟨rfl, hw_0cccc⟩)
      refine hK.out _ _ ⟨blk_next hP_0ccc hw_0cccc, blk_next hQ_0ccc hw_0cccc, blk_next hR_0ccc hw_0cccc, blk_next hK_0ccc hw_0cccc, bel_next hB_0ccc hw_0cccc⟩ (fun hHeld => ?_)
      clear hK K
      try simp only [Act.put, List.getElem_toArray, List.getElem_cons_succ, List.getElem_cons_zero, List.setIfInBounds_toArray, List.set_cons_zero, List.set_cons_succ]
      obtain ⟨hP_0cccc, hQ_0cccc, hR_0cccc, hK_0cccc, hB_0cccc⟩ := id hHeld
      refine wpAnyH_take (i := 11) (oi := _) (v := ?_) rfl (by kernel_rfl) (by kernel_rfl) (by kernel_rfl) (fun _ _ _ h => h) (Or.inl ⟨by rfl, ?_⟩) (by assumption) ?_
      (rotate_left); (focus (intro wv hSw; (obtain ⟨qP, qQ, qR, qK, qB⟩ := hSw); obtain ⟨_, _, _, _, _⟩ := blk2 qP; obtain ⟨_, _, _, _, _⟩ := blk2 qQ; obtain ⟨_, _, _, _, _⟩ := blk2 qR; obtain ⟨_, _, _, _, _⟩ := blk2 qK; go_simp; (try with_reducible rfl)))
      try simp only [Act.put, List.getElem_toArray, List.getElem_cons_succ, List.getElem_cons_zero, List.setIfInBounds_toArray, List.set_cons_zero, List.set_cons_succ]
      refine wpAnyH_take (i := 12) (oi := _) (v := ?_) rfl (by kernel_rfl) (by kernel_rfl) (by kernel_rfl) (fun _ _ _ h => h) (Or.inl ⟨by rfl, ?_⟩) (by assumption) ?_
      (rotate_left); (focus (intro wv hSw; (obtain ⟨qP, qQ, qR, qK, qB⟩ := hSw); obtain ⟨_, _, _, _, _⟩ := blk2 qP; obtain ⟨_, _, _, _, _⟩ := blk2 qQ; obtain ⟨_, _, _, _, _⟩ := blk2 qR; obtain ⟨_, _, _, _, _⟩ := blk2 qK; go_simp; (try with_reducible rfl)))
      try simp only [Act.put, List.getElem_toArray, List.getElem_cons_succ, List.getElem_cons_zero, List.setIfInBounds_toArray, List.set_cons_zero, List.set_cons_succ]
      refine wpAnyH_done (by kernel_rfl) ?_ _
      go_wp2_with fail
      go_ret
      exact ⟨ret_bool (by rw [HR2.out]; unfold btB; rw [HC.out]; simp), hB_0cccc⟩
    · have HC := Lib.hid hs
      go_enter Try.func25, Try.ntmps25
      go_wp2_with fail
      refine (iWsV_any _ _ [(u1, u2), (f1, f2), (t1, t2)] _ (WRow.of_lits _ (new4 _ _ _ _ _) rfl) (by simp)).mono ?_; rintro e w1 ⟨rfl, hw1⟩
      rw [HV.out]
      obtain ⟨hP1, hQ1, hR1, hB1⟩ := own4 hw1
      obtain ⟨cP0_1, cP1_1, fP0_1, fP1_1, zP_1⟩ := blk2 hP1
      obtain ⟨cQ0_1, cQ1_1, fQ0_1, fQ1_1, zQ_1⟩ := blk2 hQ1
      obtain ⟨cR0_1, cR1_1, fR0_1, fR1_1, zR_1⟩ := blk2 hR1
      go_wp2_with fail
      refine (iWF_in _ _ _ HS.out.2.2.2.2.2.2).mono ?_; rintro e w2 ⟨rfl, hw2⟩
      have hP2 := blk_next hP1 hw2
      have hQ2 := blk_next hQ1 hw2
      have hR2 := blk_next hR1 hw2
      have hB2 := bel_next hB1 hw2
      clear cP0_1 cP1_1 fP0_1 fP1_1 zP_1 cQ0_1 cQ1_1 fQ0_1 fQ1_1 zQ_1 cR0_1 cR1_1 fR0_1 fR1_1 zR_1 hP1 hQ1 hR1 hw1
      go_wp2_with fail
      refine wp_region_held_drew (S := (fun w' => w'.heap[w.heap.size]? = some (.cells #[.int .i64 u1, .int .i64 u2] 24) ∧ w'.heap[w.heap.size + 1]? = some (.cells #[.int .i64 f1, .int .i64 f2] 24) ∧ w'.heap[w.heap.size + 1 + 1]? = some (.cells #[.int .i64 t1, .int .i64 t2] 24) ∧ w'.heap[w2.heap.size]? = some (.cells #[.int .i64 f1, .int .i64 (-f2)] 24) ∧ Below w.heap.size w w')) (by kernel_rfl) ⟨blk_old hP2 _, blk_old hQ2 _, blk_old hR2 _, blk_new w2 _, (hB2.alloc hB2.size _).drew⟩ (fun hHeld => ?_)
      obtain ⟨hP_0, hQ_0, hR_0, hK_0, hB_0⟩ := id hHeld
      refine wpAnyH_take (i := 0) (oi := _) (v := ?_) rfl (by kernel_rfl) (by kernel_rfl) (by kernel_rfl) (fun _ _ _ h => h) (Or.inl ⟨by rfl, ?_⟩) (by assumption) ?_
      (rotate_left); (focus (intro wv hSw; (obtain ⟨qP, qQ, qR, qK, qB⟩ := hSw); obtain ⟨_, _, _, _, _⟩ := blk2 qP; obtain ⟨_, _, _, _, _⟩ := blk2 qQ; obtain ⟨_, _, _, _, _⟩ := blk2 qR; obtain ⟨_, _, _, _, _⟩ := blk2 qK; go_simp; (try with_reducible rfl)))
      try simp only [Act.put, List.getElem_toArray, List.getElem_cons_succ, List.getElem_cons_zero, List.setIfInBounds_toArray, List.set_cons_zero, List.set_cons_succ]
      refine wpAnyH_take (i := 1) (oi := _) (v := ?_) rfl (by kernel_rfl) (by kernel_rfl) (by kernel_rfl) (fun _ _ _ h => h) (Or.inl ⟨by rfl, ?_⟩) (by assumption) ?_
      (rotate_left); (focus (intro wv hSw; (obtain ⟨qP, qQ, qR, qK, qB⟩ := hSw); obtain ⟨_, _, _, _, _⟩ := blk2 qP; obtain ⟨_, _, _, _, _⟩ := blk2 qQ; obtain ⟨_, _, _, _, _⟩ := blk2 qR; obtain ⟨_, _, _, _, _⟩ := blk2 qK; go_simp; (try with_reducible rfl)))
      try simp only [Act.put, List.getElem_toArray, List.getElem_cons_succ, List.getElem_cons_zero, List.setIfInBounds_toArray, List.set_cons_zero, List.set_cons_succ]
      refine wpAnyH_ready (rs := [2]) (by kernel_rfl) (by simp) ?_
      refine AllReadyH.cons (o := _) rfl (fun K hK => ?_) (AllReadyH.nil)
      go_simp
      (go_at_call 17; refine (iSW_any _ _ _ _ _).mono ?_; rintro e x0c ⟨rfl, hw_0c⟩)
      refine hK.out _ _ ⟨blk_next hP_0 hw_0c, blk_next hQ_0 hw_0c, blk_next hR_0 hw_0c, blk_next hK_0 hw_0c, bel_next hB_0 hw_0c⟩ (fun hHeld => ?_)
      clear hK K
      try simp only [Act.put, List.getElem_toArray, List.getElem_cons_succ, List.getElem_cons_zero, List.setIfInBounds_toArray, List.set_cons_zero, List.set_cons_succ]
      obtain ⟨hP_0c, hQ_0c, hR_0c, hK_0c, hB_0c⟩ := id hHeld
      refine wpAnyH_take (i := 3) (oi := _) (v := ?_) rfl (by kernel_rfl) (by kernel_rfl) (by kernel_rfl) (fun _ _ _ h => h) (Or.inl ⟨by rfl, ?_⟩) (by assumption) ?_
      (rotate_left); (focus (intro wv hSw; (obtain ⟨qP, qQ, qR, qK, qB⟩ := hSw); obtain ⟨_, _, _, _, _⟩ := blk2 qP; obtain ⟨_, _, _, _, _⟩ := blk2 qQ; obtain ⟨_, _, _, _, _⟩ := blk2 qR; obtain ⟨_, _, _, _, _⟩ := blk2 qK; go_simp; (try with_reducible rfl)))
      try simp only [Act.put, List.getElem_toArray, List.getElem_cons_succ, List.getElem_cons_zero, List.setIfInBounds_toArray, List.set_cons_zero, List.set_cons_succ]
      refine wpAnyH_take (i := 4) (oi := _) (v := undef) rfl (by kernel_rfl) (by kernel_rfl) (by kernel_rfl) (fun _ _ _ h => h) (Or.inr ⟨by kernel_rfl, rfl⟩) (by assumption) ?_
      try simp only [Act.put, List.getElem_toArray, List.getElem_cons_succ, List.getElem_cons_zero, List.setIfInBounds_toArray, List.set_cons_zero, List.set_cons_succ]
      refine wpAnyH_take (i := 5) (oi := _) (v := undef) rfl (by kernel_rfl) (by kernel_rfl) (by kernel_rfl) (fun _ _ _ h => h) (Or.inr ⟨by kernel_rfl, rfl⟩) (by assumption) ?_
      try simp only [Act.put, List.getElem_toArray, List.getElem_cons_succ, List.getElem_cons_zero, List.setIfInBounds_toArray, List.set_cons_zero, List.set_cons_succ]
      refine wpAnyH_take (i := 6) (oi := _) (v := undef) rfl (by kernel_rfl) (by kernel_rfl) (by kernel_rfl) (fun _ _ _ h => h) (Or.inr ⟨by kernel_rfl, rfl⟩) (by assumption) ?_
      try simp only [Act.put, List.getElem_toArray, List.getElem_cons_succ, List.getElem_cons_zero, List.setIfInBounds_toArray, List.set_cons_zero, List.set_cons_succ]
      refine wpAnyH_take (i := 7) (oi := _) (v := undef) rfl (by kernel_rfl) (by kernel_rfl) (by kernel_rfl) (fun _ _ _ h => h) (Or.inr ⟨by kernel_rfl, rfl⟩) (by assumption) ?_
      try simp only [Act.put, List.getElem_toArray, List.getElem_cons_succ, List.getElem_cons_zero, List.setIfInBounds_toArray, List.set_cons_zero, List.set_cons_succ]
      refine wpAnyH_take (i := 8) (oi := _) (v := undef) rfl (by kernel_rfl) (by kernel_rfl) (by kernel_rfl) (fun _ _ _ h => h) (Or.inr ⟨by kernel_rfl, rfl⟩) (by assumption) ?_
      try simp only [Act.put, List.getElem_toArray, List.getElem_cons_succ, List.getElem_cons_zero, List.setIfInBounds_toArray, List.set_cons_zero, List.set_cons_succ]
      refine wpAnyH_take (i := 9) (oi := _) (v := undef) rfl (by kernel_rfl) (by kernel_rfl) (by kernel_rfl) (fun _ _ _ h => h) (Or.inr ⟨by kernel_rfl, rfl⟩) (by assumption) ?_
      try simp only [Act.put, List.getElem_toArray, List.getElem_cons_succ, List.getElem_cons_zero, List.setIfInBounds_toArray, List.set_cons_zero, List.set_cons_succ]
      refine wpAnyH_take (i := 10) (oi := _) (v := undef) rfl (by kernel_rfl) (by kernel_rfl) (by kernel_rfl) (fun _ _ _ h => h) (Or.inr ⟨by kernel_rfl, rfl⟩) (by assumption) ?_
      try simp only [Act.put, List.getElem_toArray, List.getElem_cons_succ, List.getElem_cons_zero, List.setIfInBounds_toArray, List.set_cons_zero, List.set_cons_succ]
      refine wpAnyH_take (i := 11) (oi := _) (v := ?_) rfl (by kernel_rfl) (by kernel_rfl) (by kernel_rfl) (fun _ _ _ h => h) (Or.inl ⟨by rfl, ?_⟩) (by assumption) ?_
      (rotate_left); (focus (intro wv hSw; (obtain ⟨qP, qQ, qR, qK, qB⟩ := hSw); obtain ⟨_, _, _, _, _⟩ := blk2 qP; obtain ⟨_, _, _, _, _⟩ := blk2 qQ; obtain ⟨_, _, _, _, _⟩ := blk2 qR; obtain ⟨_, _, _, _, _⟩ := blk2 qK; go_simp; (try with_reducible rfl)))
      try simp only [Act.put, List.getElem_toArray, List.getElem_cons_succ, List.getElem_cons_zero, List.setIfInBounds_toArray, List.set_cons_zero, List.set_cons_succ]
      refine wpAnyH_take (i := 12) (oi := _) (v := ?_) rfl (by kernel_rfl) (by kernel_rfl) (by kernel_rfl) (fun _ _ _ h => h) (Or.inl ⟨by rfl, ?_⟩) (by assumption) ?_
      (rotate_left); (focus (intro wv hSw; (obtain ⟨qP, qQ, qR, qK, qB⟩ := hSw); obtain ⟨_, _, _, _, _⟩ := blk2 qP; obtain ⟨_, _, _, _, _⟩ := blk2 qQ; obtain ⟨_, _, _, _, _⟩ := blk2 qR; obtain ⟨_, _, _, _, _⟩ := blk2 qK; go_simp; (try with_reducible rfl)))
      try simp only [Act.put, List.getElem_toArray, List.getElem_cons_succ, List.getElem_cons_zero, List.setIfInBounds_toArray, List.set_cons_zero, List.set_cons_succ]
      refine wpAnyH_done (by kernel_rfl) ?_ _
      go_wp2_with fail
      go_ret
      exact ⟨ret_bool (by rw [HR2.out]; unfold btB; rw [HC.out]; rfl), hB_0c⟩
set_option maxRecDepth 100000 in
set_option maxHeartbeats 16000000 in
theorem sBt_any (u1 u2 f1 f2 t1 t2 : Int) (w : World) :
    Calls Try.prog 26 #[.agg #[.int .i64 u1, .int .i64 u2], .agg #[.int .i64 f1, .int .i64 f2], .agg #[.int .i64 t1, .int .i64 t2]] w fun e w' => e = .returned (.bool (btR u1 u2 f1 f2 t1 t2)) ∧ Below w.heap.size w w' := by
  have HR : Hid (btR u1 u2 f1 f2 t1 t2 = (wsB [(u1, u2), (f1, f2), (t1, t2)] && btB u1 u2 f1 f2 t1 t2)) := by show btR _ _ _ _ _ _ = _; rfl
  generalize btR u1 u2 f1 f2 t1 t2 = ret at HR ⊢
  cases hv : wsB [(u1, u2), (f1, f2), (t1, t2)]
  · have HV := Lib.hid hv
    clear hv
    go_enter Try.func26, Try.ntmps26
    go_wp2_with fail
    refine (sWsV_any _ _ [(u1, u2), (f1, f2), (t1, t2)] _ (WRow.of_lits _ (new4 _ _ _ _ _) rfl) (by simp)).mono ?_; rintro e w1 ⟨rfl, hw1⟩
    rw [HV.out]
    obtain ⟨hP1, hQ1, hR1, hB1⟩ := own4 hw1
    go_wp2
    go_ret
    exact ⟨ret_bool (by rw [HR.out, HV.out]; rfl), hB1⟩
  · obtain ⟨gu, gf, gt⟩ := ws3 hv
    obtain ⟨su1, su2⟩ := go_sm3 gu
    obtain ⟨sf1, sf2⟩ := go_sm3 gf
    obtain ⟨st1, st2⟩ := go_sm3 gt
    have hx := Lib.hid (cross_in (tEN_sm su1 su2 sf1 (sm_neg sf2)).1 (tEN_sm su1 su2 sf1 (sm_neg sf2)).2 (tEN_sm st1 st2 sf1 (sm_neg sf2)).1 (tEN_sm st1 st2 sf1 (sm_neg sf2)).2)
    have HS := Lib.hid (And.intro su1 (And.intro su2 (And.intro sf1 (And.intro (sm_neg sf2) (And.intro st1 (And.intro st2 sf2))))))
    have HV := Lib.hid hv
    clear gu gf gt su1 su2 sf1 sf2 st1 st2 hv
    have HR2 : Hid (ret = btB u1 u2 f1 f2 t1 t2) := by show ret = _; rw [HR.out, HV.out]; rfl
    clear HR
    go_enter Try.func26, Try.ntmps26
    go_wp2_with fail
    refine (sWsV_any _ _ [(u1, u2), (f1, f2), (t1, t2)] _ (WRow.of_lits _ (new4 _ _ _ _ _) rfl) (by simp)).mono ?_; rintro e w1 ⟨rfl, hw1⟩
    rw [HV.out]
    obtain ⟨hP1, hQ1, hR1, hB1⟩ := own4 hw1
    go_upto_region 3 with fail
    go_cut [7] (fun s7 wx => ∃ C : Nat, s7 = .pointer (some ⟨C, 0, none⟩) ∧ wx.heap[C]? = some (.cells #[.int .i64 (tE u1 u2 f1 (-f2)), .int .i64 (tN u1 u2 f1 (-f2))] 24) ∧ wx.heap[w.heap.size]? = some (.cells #[.int .i64 u1, .int .i64 u2] 24) ∧ wx.heap[w.heap.size + 1]? = some (.cells #[.int .i64 f1, .int .i64 f2] 24) ∧ wx.heap[w.heap.size + 1 + 1]? = some (.cells #[.int .i64 t1, .int .i64 t2] 24) ∧ Below w.heap.size w wx)
    case first =>
      refine wp_region_held_drew (S := (fun w' => w'.heap[w.heap.size]? = some (.cells #[.int .i64 u1, .int .i64 u2] 24) ∧ w'.heap[w.heap.size + 1]? = some (.cells #[.int .i64 f1, .int .i64 f2] 24) ∧ w'.heap[w.heap.size + 1 + 1]? = some (.cells #[.int .i64 t1, .int .i64 t2] 24) ∧ Below w.heap.size w w')) (by kernel_rfl) ⟨hP1, hQ1, hR1, hB1.drew⟩ (fun hHeld => ?_)
      obtain ⟨hP_0, hQ_0, hR_0, hB_0⟩ := id hHeld
      refine wpAnyH_take (i := 0) (oi := _) (v := ?_) rfl (by kernel_rfl) (by kernel_rfl) (by kernel_rfl) (fun _ _ _ h => h) (Or.inl ⟨by rfl, ?_⟩) (by assumption) ?_
      (rotate_left); (focus (intro wv hSw; (obtain ⟨qP, qQ, qR, qB⟩ := hSw); obtain ⟨_, _, _, _, _⟩ := blk2 qP; obtain ⟨_, _, _, _, _⟩ := blk2 qQ; obtain ⟨_, _, _, _, _⟩ := blk2 qR; go_simp; (try with_reducible rfl)))
      try simp only [Act.put, List.getElem_toArray, List.getElem_cons_succ, List.getElem_cons_zero, List.setIfInBounds_toArray, List.set_cons_zero, List.set_cons_succ]
      refine wpAnyH_take (i := 1) (oi := _) (v := ?_) rfl (by kernel_rfl) (by kernel_rfl) (by kernel_rfl) (fun _ _ _ h => h) (Or.inl ⟨by rfl, ?_⟩) (by assumption) ?_
      (rotate_left); (focus (intro wv hSw; (obtain ⟨qP, qQ, qR, qB⟩ := hSw); obtain ⟨_, _, _, _, _⟩ := blk2 qP; obtain ⟨_, _, _, _, _⟩ := blk2 qQ; obtain ⟨_, _, _, _, _⟩ := blk2 qR; go_simp; (try with_reducible rfl)))
      try simp only [Act.put, List.getElem_toArray, List.getElem_cons_succ, List.getElem_cons_zero, List.setIfInBounds_toArray, List.set_cons_zero, List.set_cons_succ]
      refine wpAnyH_ready (rs := [2, 4]) (by kernel_rfl) (by simp) ?_
      refine AllReadyH.cons (o := _) rfl (fun K hK => ?_) (AllReadyH.cons (o := _) rfl (fun K hK => ?_) (AllReadyH.nil))
      · go_simp
        (go_at_call 54; refine (sWF_in _ _ _ HS.out.2.2.2.2.2.2).mono ?_; rintro e x0c ⟨rfl, hw_0c⟩)
        refine hK.out _ _ ⟨blk_next hP_0 hw_0c, blk_next hQ_0 hw_0c, blk_next hR_0 hw_0c, bel_next hB_0 hw_0c⟩ (fun hHeld => ?_)
        clear hK K
        try simp only [Act.put, List.getElem_toArray, List.getElem_cons_succ, List.getElem_cons_zero, List.setIfInBounds_toArray, List.set_cons_zero, List.set_cons_succ]
        obtain ⟨hP_0c, hQ_0c, hR_0c, hB_0c⟩ := id hHeld
        refine wpAnyH_ready (rs := [3, 4]) (by kernel_rfl) (by simp) ?_
        refine AllReadyH.cons (o := _) rfl (fun K hK => ?_) (AllReadyH.cons (o := _) rfl (fun K hK => ?_) (AllReadyH.nil))
        · go_simp
          (go_at_call 53; refine (sWT_in _ _ _ _ _ HS.out.1 HS.out.2.1 HS.out.2.2.1 HS.out.2.2.2.1).mono ?_; rintro e x0cc ⟨rfl, hw_0cc⟩)
          refine hK.out _ _ ⟨blk_next hP_0c hw_0cc, blk_next hQ_0c hw_0cc, blk_next hR_0c hw_0cc, bel_next hB_0c hw_0cc⟩ (fun hHeld => ?_)
          clear hK K
          try simp only [Act.put, List.getElem_toArray, List.getElem_cons_succ, List.getElem_cons_zero, List.setIfInBounds_toArray, List.set_cons_zero, List.set_cons_succ]
          obtain ⟨hP_0cc, hQ_0cc, hR_0cc, hB_0cc⟩ := id hHeld
          refine wpAnyH_ready (rs := [4]) (by kernel_rfl) (by simp) ?_
          refine AllReadyH.cons (o := _) rfl (fun K hK => ?_) (AllReadyH.nil)
          go_simp
          refine hK.out _ _ ⟨blk_old hP_0cc _, blk_old hQ_0cc _, blk_old hR_0cc _, hB_0cc.alloc (by have := hB_0cc.size; omega) _⟩ (fun hHeld => ?_)
          clear hK K
          try simp only [Act.put, List.getElem_toArray, List.getElem_cons_succ, List.getElem_cons_zero, List.setIfInBounds_toArray, List.set_cons_zero, List.set_cons_succ]
          obtain ⟨hP_0cca, hQ_0cca, hR_0cca, hB_0cca⟩ := id hHeld
          have hA_0cca : (x0cc.alloc (.cells #[.int .i64 0, .int .i64 0] 24)).heap[x0cc.heap.size]? = some (.cells #[.int .i64 0, .int .i64 0] 24) := by have := blk_new (x0cc) (.cells #[.int .i64 0, .int .i64 0] 24); simpa using this
          have zAP_0cca : w.heap.size < x0cc.heap.size := by have := blk_lt hP_0cc; simpa using this
          have zAQ_0cca : w.heap.size + 1 < x0cc.heap.size := by have := blk_lt hQ_0cc; simpa using this
          have zAR_0cca : w.heap.size + 1 + 1 < x0cc.heap.size := by have := blk_lt hR_0cc; simpa using this
          have zAB_0cca : w.heap.size ≤ x0cc.heap.size := by have := hB_0cc.size; simpa using this
          refine wpAnyH_ready (rs := [5]) (by kernel_rfl) (by simp) ?_
          refine AllReadyH.cons (o := _) rfl (fun K hK => ?_) (AllReadyH.nil)
          obtain ⟨sc0_0ccac, sc1_0ccac, sf0_0ccac, sf1_0ccac, sz_0ccac⟩ := blk2 hA_0cca
          go_simp
          refine hK.out _ _ ⟨blk_old hP_0cc _, blk_old hQ_0cc _, blk_old hR_0cc _, hB_0cc.alloc (by have := hB_0cc.size; omega) _⟩ (fun hHeld => ?_)
          clear hK K
          try simp only [Act.put, List.getElem_toArray, List.getElem_cons_succ, List.getElem_cons_zero, List.setIfInBounds_toArray, List.set_cons_zero, List.set_cons_succ]
          obtain ⟨hP_0ccac, hQ_0ccac, hR_0ccac, hB_0ccac⟩ := id hHeld
          have hA_0ccac : (x0cc.alloc (.cells #[.int .i64 (tE u1 u2 f1 (-f2)), .int .i64 (tN u1 u2 f1 (-f2))] 24)).heap[x0cc.heap.size]? = some (.cells #[.int .i64 (tE u1 u2 f1 (-f2)), .int .i64 (tN u1 u2 f1 (-f2))] 24) := by have := blk_new (x0cc) (.cells #[.int .i64 (tE u1 u2 f1 (-f2)), .int .i64 (tN u1 u2 f1 (-f2))] 24); simpa using this
          refine wpAnyH_done (by kernel_rfl) ?_ _
          go_wp2_with fail
          go_meet
          exact ⟨_, rfl, hA_0ccac, hP_0ccac, hQ_0ccac, hR_0ccac, hB_0ccac⟩
        · go_simp
          refine hK.out _ _ ⟨blk_old hP_0c _, blk_old hQ_0c _, blk_old hR_0c _, hB_0c.alloc (by have := hB_0c.size; omega) _⟩ (fun hHeld => ?_)
          clear hK K
          try simp only [Act.put, List.getElem_toArray, List.getElem_cons_succ, List.getElem_cons_zero, List.setIfInBounds_toArray, List.set_cons_zero, List.set_cons_succ]
          obtain ⟨hP_0ca, hQ_0ca, hR_0ca, hB_0ca⟩ := id hHeld
          have hA_0ca : (x0c.alloc (.cells #[.int .i64 0, .int .i64 0] 24)).heap[x0c.heap.size]? = some (.cells #[.int .i64 0, .int .i64 0] 24) := by have := blk_new (x0c) (.cells #[.int .i64 0, .int .i64 0] 24); simpa using this
          have zAP_0ca : w.heap.size < x0c.heap.size := by have := blk_lt hP_0c; simpa using this
          have zAQ_0ca : w.heap.size + 1 < x0c.heap.size := by have := blk_lt hQ_0c; simpa using this
          have zAR_0ca : w.heap.size + 1 + 1 < x0c.heap.size := by have := blk_lt hR_0c; simpa using this
          have zAB_0ca : w.heap.size ≤ x0c.heap.size := by have := hB_0c.size; simpa using this
          refine wpAnyH_ready (rs := [3]) (by kernel_rfl) (by simp) ?_
          refine AllReadyH.cons (o := _) rfl (fun K hK => ?_) (AllReadyH.nil)
          go_simp
          (go_at_call 53; refine (sWT_in _ _ _ _ _ HS.out.1 HS.out.2.1 HS.out.2.2.1 HS.out.2.2.2.1).mono ?_; rintro e x0cac ⟨rfl, hw_0cac⟩)
          refine hK.out _ _ ⟨blk_next hP_0ca hw_0cac, blk_next hQ_0ca hw_0cac, blk_next hR_0ca hw_0cac, bel_next hB_0ca hw_0cac⟩ (fun hHeld => ?_)
          clear hK K
          try simp only [Act.put, List.getElem_toArray, List.getElem_cons_succ, List.getElem_cons_zero, List.setIfInBounds_toArray, List.set_cons_zero, List.set_cons_succ]
          obtain ⟨hP_0cac, hQ_0cac, hR_0cac, hB_0cac⟩ := id hHeld
          have hA_0cac := blk_next hA_0ca hw_0cac
          refine wpAnyH_ready (rs := [5]) (by kernel_rfl) (by simp) ?_
          refine AllReadyH.cons (o := _) rfl (fun K hK => ?_) (AllReadyH.nil)
          obtain ⟨sc0_0cacc, sc1_0cacc, sf0_0cacc, sf1_0cacc, sz_0cacc⟩ := blk2 hA_0cac
          go_simp
          refine hK.out _ _ ⟨blk_store2 hP_0cac (Nat.ne_of_lt zAP_0ca) _ _, blk_store2 hQ_0cac (Nat.ne_of_lt zAQ_0ca) _ _, blk_store2 hR_0cac (Nat.ne_of_lt zAR_0ca) _ _, store2_bel hB_0cac zAB_0ca _ _⟩ (fun hHeld => ?_)
          clear hK K
          try simp only [Act.put, List.getElem_toArray, List.getElem_cons_succ, List.getElem_cons_zero, List.setIfInBounds_toArray, List.set_cons_zero, List.set_cons_succ]
          obtain ⟨hP_0cacc, hQ_0cacc, hR_0cacc, hB_0cacc⟩ := id hHeld
          have hA_0cacc := blk2_set (a := .int .i64 (tE u1 u2 f1 (-f2))) (b := .int .i64 (tN u1 u2 f1 (-f2))) hA_0cac
          refine wpAnyH_done (by kernel_rfl) ?_ _
          go_wp2_with fail
          go_meet
          exact ⟨_, rfl, hA_0cacc, hP_0cacc, hQ_0cacc, hR_0cacc, hB_0cacc⟩
      · go_simp
        refine hK.out _ _ ⟨blk_old hP_0 _, blk_old hQ_0 _, blk_old hR_0 _, hB_0.alloc (by have := hB_0.size; omega) _⟩ (fun hHeld => ?_)
        clear hK K
        try simp only [Act.put, List.getElem_toArray, List.getElem_cons_succ, List.getElem_cons_zero, List.setIfInBounds_toArray, List.set_cons_zero, List.set_cons_succ]
        obtain ⟨hP_0a, hQ_0a, hR_0a, hB_0a⟩ := id hHeld
        have hA_0a : (w1.drew.alloc (.cells #[.int .i64 0, .int .i64 0] 24)).heap[w1.heap.size]? = some (.cells #[.int .i64 0, .int .i64 0] 24) := by have := blk_new (w1.drew) (.cells #[.int .i64 0, .int .i64 0] 24); simpa using this
        have zAP_0a : w.heap.size < w1.heap.size := by have := blk_lt hP_0; simpa using this
        have zAQ_0a : w.heap.size + 1 < w1.heap.size := by have := blk_lt hQ_0; simpa using this
        have zAR_0a : w.heap.size + 1 + 1 < w1.heap.size := by have := blk_lt hR_0; simpa using this
        have zAB_0a : w.heap.size ≤ w1.heap.size := by have := hB_0.size; simpa using this
        refine wpAnyH_ready (rs := [2]) (by kernel_rfl) (by simp) ?_
        refine AllReadyH.cons (o := _) rfl (fun K hK => ?_) (AllReadyH.nil)
        go_simp
        (go_at_call 54; refine (sWF_in _ _ _ HS.out.2.2.2.2.2.2).mono ?_; rintro e x0ac ⟨rfl, hw_0ac⟩)
        refine hK.out _ _ ⟨blk_next hP_0a hw_0ac, blk_next hQ_0a hw_0ac, blk_next hR_0a hw_0ac, bel_next hB_0a hw_0ac⟩ (fun hHeld => ?_)
        clear hK K
        try simp only [Act.put, List.getElem_toArray, List.getElem_cons_succ, List.getElem_cons_zero, List.setIfInBounds_toArray, List.set_cons_zero, List.set_cons_succ]
        obtain ⟨hP_0ac, hQ_0ac, hR_0ac, hB_0ac⟩ := id hHeld
        have hA_0ac := blk_next hA_0a hw_0ac
        refine wpAnyH_ready (rs := [3]) (by kernel_rfl) (by simp) ?_
        refine AllReadyH.cons (o := _) rfl (fun K hK => ?_) (AllReadyH.nil)
        go_simp
        (go_at_call 53; refine (sWT_in _ _ _ _ _ HS.out.1 HS.out.2.1 HS.out.2.2.1 HS.out.2.2.2.1).mono ?_; rintro e x0acc ⟨rfl, hw_0acc⟩)
        refine hK.out _ _ ⟨blk_next hP_0ac hw_0acc, blk_next hQ_0ac hw_0acc, blk_next hR_0ac hw_0acc, bel_next hB_0ac hw_0acc⟩ (fun hHeld => ?_)
        clear hK K
        try simp only [Act.put, List.getElem_toArray, List.getElem_cons_succ, List.getElem_cons_zero, List.setIfInBounds_toArray, List.set_cons_zero, List.set_cons_succ]
        obtain ⟨hP_0acc, hQ_0acc, hR_0acc, hB_0acc⟩ := id hHeld
        have hA_0acc := blk_next hA_0ac hw_0acc
        refine wpAnyH_ready (rs := [5]) (by kernel_rfl) (by simp) ?_
        refine AllReadyH.cons (o := _) rfl (fun K hK => ?_) (AllReadyH.nil)
        obtain ⟨sc0_0accc, sc1_0accc, sf0_0accc, sf1_0accc, sz_0accc⟩ := blk2 hA_0acc
        go_simp
        refine hK.out _ _ ⟨blk_store2 hP_0acc (Nat.ne_of_lt zAP_0a) _ _, blk_store2 hQ_0acc (Nat.ne_of_lt zAQ_0a) _ _, blk_store2 hR_0acc (Nat.ne_of_lt zAR_0a) _ _, store2_bel hB_0acc zAB_0a _ _⟩ (fun hHeld => ?_)
        clear hK K
        try simp only [Act.put, List.getElem_toArray, List.getElem_cons_succ, List.getElem_cons_zero, List.setIfInBounds_toArray, List.set_cons_zero, List.set_cons_succ]
        obtain ⟨hP_0accc, hQ_0accc, hR_0accc, hB_0accc⟩ := id hHeld
        have hA_0accc := blk2_set (a := .int .i64 (tE u1 u2 f1 (-f2))) (b := .int .i64 (tN u1 u2 f1 (-f2))) hA_0acc
        refine wpAnyH_done (by kernel_rfl) ?_ _
        go_wp2_with fail
        go_meet
        exact ⟨_, rfl, hA_0accc, hP_0accc, hQ_0accc, hR_0accc, hB_0accc⟩
    case rest =>
      clear hP1 hQ1 hR1 hB1
      obtain ⟨C, rfl, hA1, hP1, hQ1, hR1, hB1⟩ := hcut
      go_upto_region 4 with fail
      go_cut [8] (fun s8 wx => ∃ D : Nat, s8 = .pointer (some ⟨D, 0, none⟩) ∧ wx.heap[D]? = some (.cells #[.int .i64 (tE t1 t2 f1 (-f2)), .int .i64 (tN t1 t2 f1 (-f2))] 24) ∧ wx.heap[C]? = some (.cells #[.int .i64 (tE u1 u2 f1 (-f2)), .int .i64 (tN u1 u2 f1 (-f2))] 24) ∧ wx.heap[w.heap.size]? = some (.cells #[.int .i64 u1, .int .i64 u2] 24) ∧ wx.heap[w.heap.size + 1]? = some (.cells #[.int .i64 f1, .int .i64 f2] 24) ∧ wx.heap[w.heap.size + 1 + 1]? = some (.cells #[.int .i64 t1, .int .i64 t2] 24) ∧ Below w.heap.size w wx)
      case first =>
        refine wp_region_held_drew (S := (fun w' => w'.heap[w.heap.size]? = some (.cells #[.int .i64 u1, .int .i64 u2] 24) ∧ w'.heap[w.heap.size + 1]? = some (.cells #[.int .i64 f1, .int .i64 f2] 24) ∧ w'.heap[w.heap.size + 1 + 1]? = some (.cells #[.int .i64 t1, .int .i64 t2] 24) ∧ w'.heap[C]? = some (.cells #[.int .i64 (tE u1 u2 f1 (-f2)), .int .i64 (tN u1 u2 f1 (-f2))] 24) ∧ Below w.heap.size w w')) (by kernel_rfl) ⟨hP1, hQ1, hR1, hA1, hB1.drew⟩ (fun hHeld => ?_)
        obtain ⟨hP_0, hQ_0, hR_0, hA_0, hB_0⟩ := id hHeld
        refine wpAnyH_take (i := 0) (oi := _) (v := ?_) rfl (by kernel_rfl) (by kernel_rfl) (by kernel_rfl) (fun _ _ _ h => h) (Or.inl ⟨by rfl, ?_⟩) (by assumption) ?_
        (rotate_left); (focus (intro wv hSw; (obtain ⟨qP, qQ, qR, qA, qB⟩ := hSw); obtain ⟨_, _, _, _, _⟩ := blk2 qP; obtain ⟨_, _, _, _, _⟩ := blk2 qQ; obtain ⟨_, _, _, _, _⟩ := blk2 qR; obtain ⟨_, _, _, _, _⟩ := blk2 qA; go_simp; (try with_reducible rfl)))
        try simp only [Act.put, List.getElem_toArray, List.getElem_cons_succ, List.getElem_cons_zero, List.setIfInBounds_toArray, List.set_cons_zero, List.set_cons_succ]
        refine wpAnyH_take (i := 1) (oi := _) (v := ?_) rfl (by kernel_rfl) (by kernel_rfl) (by kernel_rfl) (fun _ _ _ h => h) (Or.inl ⟨by rfl, ?_⟩) (by assumption) ?_
        (rotate_left); (focus (intro wv hSw; (obtain ⟨qP, qQ, qR, qA, qB⟩ := hSw); obtain ⟨_, _, _, _, _⟩ := blk2 qP; obtain ⟨_, _, _, _, _⟩ := blk2 qQ; obtain ⟨_, _, _, _, _⟩ := blk2 qR; obtain ⟨_, _, _, _, _⟩ := blk2 qA; go_simp; (try with_reducible rfl)))
        try simp only [Act.put, List.getElem_toArray, List.getElem_cons_succ, List.getElem_cons_zero, List.setIfInBounds_toArray, List.set_cons_zero, List.set_cons_succ]
        refine wpAnyH_ready (rs := [2, 4]) (by kernel_rfl) (by simp) ?_
        refine AllReadyH.cons (o := _) rfl (fun K hK => ?_) (AllReadyH.cons (o := _) rfl (fun K hK => ?_) (AllReadyH.nil))
        · go_simp
          (go_at_call 54; refine (sWF_in _ _ _ HS.out.2.2.2.2.2.2).mono ?_; rintro e x0c ⟨rfl, hw_0c⟩)
          refine hK.out _ _ ⟨blk_next hP_0 hw_0c, blk_next hQ_0 hw_0c, blk_next hR_0 hw_0c, blk_next hA_0 hw_0c, bel_next hB_0 hw_0c⟩ (fun hHeld => ?_)
          clear hK K
          try simp only [Act.put, List.getElem_toArray, List.getElem_cons_succ, List.getElem_cons_zero, List.setIfInBounds_toArray, List.set_cons_zero, List.set_cons_succ]
          obtain ⟨hP_0c, hQ_0c, hR_0c, hA_0c, hB_0c⟩ := id hHeld
          refine wpAnyH_ready (rs := [3, 4]) (by kernel_rfl) (by simp) ?_
          refine AllReadyH.cons (o := _) rfl (fun K hK => ?_) (AllReadyH.cons (o := _) rfl (fun K hK => ?_) (AllReadyH.nil))
          · go_simp
            (go_at_call 53; refine (sWT_in _ _ _ _ _ HS.out.2.2.2.2.1 HS.out.2.2.2.2.2.1 HS.out.2.2.1 HS.out.2.2.2.1).mono ?_; rintro e x0cc ⟨rfl, hw_0cc⟩)
            refine hK.out _ _ ⟨blk_next hP_0c hw_0cc, blk_next hQ_0c hw_0cc, blk_next hR_0c hw_0cc, blk_next hA_0c hw_0cc, bel_next hB_0c hw_0cc⟩ (fun hHeld => ?_)
            clear hK K
            try simp only [Act.put, List.getElem_toArray, List.getElem_cons_succ, List.getElem_cons_zero, List.setIfInBounds_toArray, List.set_cons_zero, List.set_cons_succ]
            obtain ⟨hP_0cc, hQ_0cc, hR_0cc, hA_0cc, hB_0cc⟩ := id hHeld
            refine wpAnyH_ready (rs := [4]) (by kernel_rfl) (by simp) ?_
            refine AllReadyH.cons (o := _) rfl (fun K hK => ?_) (AllReadyH.nil)
            go_simp
            refine hK.out _ _ ⟨blk_old hP_0cc _, blk_old hQ_0cc _, blk_old hR_0cc _, blk_old hA_0cc _, hB_0cc.alloc (by have := hB_0cc.size; omega) _⟩ (fun hHeld => ?_)
            clear hK K
            try simp only [Act.put, List.getElem_toArray, List.getElem_cons_succ, List.getElem_cons_zero, List.setIfInBounds_toArray, List.set_cons_zero, List.set_cons_succ]
            obtain ⟨hP_0cca, hQ_0cca, hR_0cca, hA_0cca, hB_0cca⟩ := id hHeld
            have hD_0cca : (x0cc.alloc (.cells #[.int .i64 0, .int .i64 0] 24)).heap[x0cc.heap.size]? = some (.cells #[.int .i64 0, .int .i64 0] 24) := by have := blk_new (x0cc) (.cells #[.int .i64 0, .int .i64 0] 24); simpa using this
            have zDP_0cca : w.heap.size < x0cc.heap.size := by have := blk_lt hP_0cc; simpa using this
            have zDQ_0cca : w.heap.size + 1 < x0cc.heap.size := by have := blk_lt hQ_0cc; simpa using this
            have zDR_0cca : w.heap.size + 1 + 1 < x0cc.heap.size := by have := blk_lt hR_0cc; simpa using this
            have zDA_0cca : C < x0cc.heap.size := by have := blk_lt hA_0cc; simpa using this
            have zDB_0cca : w.heap.size ≤ x0cc.heap.size := by have := hB_0cc.size; simpa using this
            refine wpAnyH_ready (rs := [5]) (by kernel_rfl) (by simp) ?_
            refine AllReadyH.cons (o := _) rfl (fun K hK => ?_) (AllReadyH.nil)
            obtain ⟨sc0_0ccac, sc1_0ccac, sf0_0ccac, sf1_0ccac, sz_0ccac⟩ := blk2 hD_0cca
            go_simp
            refine hK.out _ _ ⟨blk_old hP_0cc _, blk_old hQ_0cc _, blk_old hR_0cc _, blk_old hA_0cc _, hB_0cc.alloc (by have := hB_0cc.size; omega) _⟩ (fun hHeld => ?_)
            clear hK K
            try simp only [Act.put, List.getElem_toArray, List.getElem_cons_succ, List.getElem_cons_zero, List.setIfInBounds_toArray, List.set_cons_zero, List.set_cons_succ]
            obtain ⟨hP_0ccac, hQ_0ccac, hR_0ccac, hA_0ccac, hB_0ccac⟩ := id hHeld
            have hD_0ccac : (x0cc.alloc (.cells #[.int .i64 (tE t1 t2 f1 (-f2)), .int .i64 (tN t1 t2 f1 (-f2))] 24)).heap[x0cc.heap.size]? = some (.cells #[.int .i64 (tE t1 t2 f1 (-f2)), .int .i64 (tN t1 t2 f1 (-f2))] 24) := by have := blk_new (x0cc) (.cells #[.int .i64 (tE t1 t2 f1 (-f2)), .int .i64 (tN t1 t2 f1 (-f2))] 24); simpa using this
            refine wpAnyH_done (by kernel_rfl) ?_ _
            go_wp2_with fail
            go_meet
            exact ⟨_, rfl, hD_0ccac, hA_0ccac, hP_0ccac, hQ_0ccac, hR_0ccac, hB_0ccac⟩
          · go_simp
            refine hK.out _ _ ⟨blk_old hP_0c _, blk_old hQ_0c _, blk_old hR_0c _, blk_old hA_0c _, hB_0c.alloc (by have := hB_0c.size; omega) _⟩ (fun hHeld => ?_)
            clear hK K
            try simp only [Act.put, List.getElem_toArray, List.getElem_cons_succ, List.getElem_cons_zero, List.setIfInBounds_toArray, List.set_cons_zero, List.set_cons_succ]
            obtain ⟨hP_0ca, hQ_0ca, hR_0ca, hA_0ca, hB_0ca⟩ := id hHeld
            have hD_0ca : (x0c.alloc (.cells #[.int .i64 0, .int .i64 0] 24)).heap[x0c.heap.size]? = some (.cells #[.int .i64 0, .int .i64 0] 24) := by have := blk_new (x0c) (.cells #[.int .i64 0, .int .i64 0] 24); simpa using this
            have zDP_0ca : w.heap.size < x0c.heap.size := by have := blk_lt hP_0c; simpa using this
            have zDQ_0ca : w.heap.size + 1 < x0c.heap.size := by have := blk_lt hQ_0c; simpa using this
            have zDR_0ca : w.heap.size + 1 + 1 < x0c.heap.size := by have := blk_lt hR_0c; simpa using this
            have zDA_0ca : C < x0c.heap.size := by have := blk_lt hA_0c; simpa using this
            have zDB_0ca : w.heap.size ≤ x0c.heap.size := by have := hB_0c.size; simpa using this
            refine wpAnyH_ready (rs := [3]) (by kernel_rfl) (by simp) ?_
            refine AllReadyH.cons (o := _) rfl (fun K hK => ?_) (AllReadyH.nil)
            go_simp
            (go_at_call 53; refine (sWT_in _ _ _ _ _ HS.out.2.2.2.2.1 HS.out.2.2.2.2.2.1 HS.out.2.2.1 HS.out.2.2.2.1).mono ?_; rintro e x0cac ⟨rfl, hw_0cac⟩)
            refine hK.out _ _ ⟨blk_next hP_0ca hw_0cac, blk_next hQ_0ca hw_0cac, blk_next hR_0ca hw_0cac, blk_next hA_0ca hw_0cac, bel_next hB_0ca hw_0cac⟩ (fun hHeld => ?_)
            clear hK K
            try simp only [Act.put, List.getElem_toArray, List.getElem_cons_succ, List.getElem_cons_zero, List.setIfInBounds_toArray, List.set_cons_zero, List.set_cons_succ]
            obtain ⟨hP_0cac, hQ_0cac, hR_0cac, hA_0cac, hB_0cac⟩ := id hHeld
            have hD_0cac := blk_next hD_0ca hw_0cac
            refine wpAnyH_ready (rs := [5]) (by kernel_rfl) (by simp) ?_
            refine AllReadyH.cons (o := _) rfl (fun K hK => ?_) (AllReadyH.nil)
            obtain ⟨sc0_0cacc, sc1_0cacc, sf0_0cacc, sf1_0cacc, sz_0cacc⟩ := blk2 hD_0cac
            go_simp
            refine hK.out _ _ ⟨blk_store2 hP_0cac (Nat.ne_of_lt zDP_0ca) _ _, blk_store2 hQ_0cac (Nat.ne_of_lt zDQ_0ca) _ _, blk_store2 hR_0cac (Nat.ne_of_lt zDR_0ca) _ _, blk_store2 hA_0cac (Nat.ne_of_lt zDA_0ca) _ _, store2_bel hB_0cac zDB_0ca _ _⟩ (fun hHeld => ?_)
            clear hK K
            try simp only [Act.put, List.getElem_toArray, List.getElem_cons_succ, List.getElem_cons_zero, List.setIfInBounds_toArray, List.set_cons_zero, List.set_cons_succ]
            obtain ⟨hP_0cacc, hQ_0cacc, hR_0cacc, hA_0cacc, hB_0cacc⟩ := id hHeld
            have hD_0cacc := blk2_set (a := .int .i64 (tE t1 t2 f1 (-f2))) (b := .int .i64 (tN t1 t2 f1 (-f2))) hD_0cac
            refine wpAnyH_done (by kernel_rfl) ?_ _
            go_wp2_with fail
            go_meet
            exact ⟨_, rfl, hD_0cacc, hA_0cacc, hP_0cacc, hQ_0cacc, hR_0cacc, hB_0cacc⟩
        · go_simp
          refine hK.out _ _ ⟨blk_old hP_0 _, blk_old hQ_0 _, blk_old hR_0 _, blk_old hA_0 _, hB_0.alloc (by have := hB_0.size; omega) _⟩ (fun hHeld => ?_)
          clear hK K
          try simp only [Act.put, List.getElem_toArray, List.getElem_cons_succ, List.getElem_cons_zero, List.setIfInBounds_toArray, List.set_cons_zero, List.set_cons_succ]
          obtain ⟨hP_0a, hQ_0a, hR_0a, hA_0a, hB_0a⟩ := id hHeld
          have hD_0a : (wc.drew.alloc (.cells #[.int .i64 0, .int .i64 0] 24)).heap[wc.heap.size]? = some (.cells #[.int .i64 0, .int .i64 0] 24) := by have := blk_new (wc.drew) (.cells #[.int .i64 0, .int .i64 0] 24); simpa using this
          have zDP_0a : w.heap.size < wc.heap.size := by have := blk_lt hP_0; simpa using this
          have zDQ_0a : w.heap.size + 1 < wc.heap.size := by have := blk_lt hQ_0; simpa using this
          have zDR_0a : w.heap.size + 1 + 1 < wc.heap.size := by have := blk_lt hR_0; simpa using this
          have zDA_0a : C < wc.heap.size := by have := blk_lt hA_0; simpa using this
          have zDB_0a : w.heap.size ≤ wc.heap.size := by have := hB_0.size; simpa using this
          refine wpAnyH_ready (rs := [2]) (by kernel_rfl) (by simp) ?_
          refine AllReadyH.cons (o := _) rfl (fun K hK => ?_) (AllReadyH.nil)
          go_simp
          (go_at_call 54; refine (sWF_in _ _ _ HS.out.2.2.2.2.2.2).mono ?_; rintro e x0ac ⟨rfl, hw_0ac⟩)
          refine hK.out _ _ ⟨blk_next hP_0a hw_0ac, blk_next hQ_0a hw_0ac, blk_next hR_0a hw_0ac, blk_next hA_0a hw_0ac, bel_next hB_0a hw_0ac⟩ (fun hHeld => ?_)
          clear hK K
          try simp only [Act.put, List.getElem_toArray, List.getElem_cons_succ, List.getElem_cons_zero, List.setIfInBounds_toArray, List.set_cons_zero, List.set_cons_succ]
          obtain ⟨hP_0ac, hQ_0ac, hR_0ac, hA_0ac, hB_0ac⟩ := id hHeld
          have hD_0ac := blk_next hD_0a hw_0ac
          refine wpAnyH_ready (rs := [3]) (by kernel_rfl) (by simp) ?_
          refine AllReadyH.cons (o := _) rfl (fun K hK => ?_) (AllReadyH.nil)
          go_simp
          (go_at_call 53; refine (sWT_in _ _ _ _ _ HS.out.2.2.2.2.1 HS.out.2.2.2.2.2.1 HS.out.2.2.1 HS.out.2.2.2.1).mono ?_; rintro e x0acc ⟨rfl, hw_0acc⟩)
          refine hK.out _ _ ⟨blk_next hP_0ac hw_0acc, blk_next hQ_0ac hw_0acc, blk_next hR_0ac hw_0acc, blk_next hA_0ac hw_0acc, bel_next hB_0ac hw_0acc⟩ (fun hHeld => ?_)
          clear hK K
          try simp only [Act.put, List.getElem_toArray, List.getElem_cons_succ, List.getElem_cons_zero, List.setIfInBounds_toArray, List.set_cons_zero, List.set_cons_succ]
          obtain ⟨hP_0acc, hQ_0acc, hR_0acc, hA_0acc, hB_0acc⟩ := id hHeld
          have hD_0acc := blk_next hD_0ac hw_0acc
          refine wpAnyH_ready (rs := [5]) (by kernel_rfl) (by simp) ?_
          refine AllReadyH.cons (o := _) rfl (fun K hK => ?_) (AllReadyH.nil)
          obtain ⟨sc0_0accc, sc1_0accc, sf0_0accc, sf1_0accc, sz_0accc⟩ := blk2 hD_0acc
          go_simp
          refine hK.out _ _ ⟨blk_store2 hP_0acc (Nat.ne_of_lt zDP_0a) _ _, blk_store2 hQ_0acc (Nat.ne_of_lt zDQ_0a) _ _, blk_store2 hR_0acc (Nat.ne_of_lt zDR_0a) _ _, blk_store2 hA_0acc (Nat.ne_of_lt zDA_0a) _ _, store2_bel hB_0acc zDB_0a _ _⟩ (fun hHeld => ?_)
          clear hK K
          try simp only [Act.put, List.getElem_toArray, List.getElem_cons_succ, List.getElem_cons_zero, List.setIfInBounds_toArray, List.set_cons_zero, List.set_cons_succ]
          obtain ⟨hP_0accc, hQ_0accc, hR_0accc, hA_0accc, hB_0accc⟩ := id hHeld
          have hD_0accc := blk2_set (a := .int .i64 (tE t1 t2 f1 (-f2))) (b := .int .i64 (tN t1 t2 f1 (-f2))) hD_0acc
          refine wpAnyH_done (by kernel_rfl) ?_ _
          go_wp2_with fail
          go_meet
          exact ⟨_, rfl, hD_0accc, hA_0accc, hP_0accc, hQ_0accc, hR_0accc, hB_0accc⟩
      case rest =>
        clear hP1 hQ1 hR1 hA1 hB1
        obtain ⟨D, rfl, hD1, hA1, hP1, hQ1, hR1, hB1⟩ := hcut
        obtain ⟨bA0, bA1, bA2, bA3, zA⟩ := blk2 hA1
        obtain ⟨bD0, bD1, bD2, bD3, zD⟩ := blk2 hD1
        obtain ⟨bP0, bP1, bP2, bP3, zP⟩ := blk2 hP1
        go_wp2_with fail
        cases hs : swB u1 u2 f1 f2
        · have HC := Lib.hid hs
          rcases Int.lt_trichotomy (halfI (tE u1 u2 f1 (-f2)) (tN u1 u2 f1 (-f2))) (halfI (tE t1 t2 f1 (-f2)) (tN t1 t2 f1 (-f2))) with e1 | e1 | e1
          · have d1 : decide (halfI (tE u1 u2 f1 (-f2)) (tN u1 u2 f1 (-f2)) < halfI (tE t1 t2 f1 (-f2)) (tN t1 t2 f1 (-f2))) = true := by simpa using e1
            have E1 := Lib.hid e1
            clear e1
            refine wp_region_held_drew (S := (fun w' => w'.heap[w.heap.size]? = some (.cells #[.int .i64 u1, .int .i64 u2] 24) ∧ w'.heap[w.heap.size + 1]? = some (.cells #[.int .i64 f1, .int .i64 f2] 24) ∧ w'.heap[w.heap.size + 1 + 1]? = some (.cells #[.int .i64 t1, .int .i64 t2] 24) ∧ w'.heap[C]? = some (.cells #[.int .i64 (tE u1 u2 f1 (-f2)), .int .i64 (tN u1 u2 f1 (-f2))] 24) ∧ w'.heap[D]? = some (.cells #[.int .i64 (tE t1 t2 f1 (-f2)), .int .i64 (tN t1 t2 f1 (-f2))] 24) ∧ Below w.heap.size w w')) (by kernel_rfl) ⟨hP1, hQ1, hR1, hA1, hD1, hB1.drew⟩ (fun hHeld => ?_)
            obtain ⟨hP_0, hQ_0, hR_0, hA_0, hD_0, hB_0⟩ := id hHeld
            refine wpAnyH_take (i := 0) (oi := _) (v := ?_) rfl (by kernel_rfl) (by kernel_rfl) (by kernel_rfl) (fun _ _ _ h => h) (Or.inl ⟨by rfl, ?_⟩) (by assumption) ?_
            (rotate_left); (focus (intro wv hSw; (obtain ⟨qP, qQ, qR, qA, qD, qB⟩ := hSw); obtain ⟨_, _, _, _, _⟩ := blk2 qP; obtain ⟨_, _, _, _, _⟩ := blk2 qQ; obtain ⟨_, _, _, _, _⟩ := blk2 qR; obtain ⟨_, _, _, _, _⟩ := blk2 qA; obtain ⟨_, _, _, _, _⟩ := blk2 qD; go_simp; (try with_reducible rfl)))
            try simp only [Act.put, List.getElem_toArray, List.getElem_cons_succ, List.getElem_cons_zero, List.setIfInBounds_toArray, List.set_cons_zero, List.set_cons_succ]
            refine wpAnyH_take (i := 1) (oi := _) (v := ?_) rfl (by kernel_rfl) (by kernel_rfl) (by kernel_rfl) (fun _ _ _ h => h) (Or.inl ⟨by rfl, ?_⟩) (by assumption) ?_
            (rotate_left); (focus (intro wv hSw; (obtain ⟨qP, qQ, qR, qA, qD, qB⟩ := hSw); obtain ⟨_, _, _, _, _⟩ := blk2 qP; obtain ⟨_, _, _, _, _⟩ := blk2 qQ; obtain ⟨_, _, _, _, _⟩ := blk2 qR; obtain ⟨_, _, _, _, _⟩ := blk2 qA; obtain ⟨_, _, _, _, _⟩ := blk2 qD; go_simp; (try with_reducible rfl)))
            try simp only [Act.put, List.getElem_toArray, List.getElem_cons_succ, List.getElem_cons_zero, List.setIfInBounds_toArray, List.set_cons_zero, List.set_cons_succ]
            refine wpAnyH_ready (rs := [2]) (by kernel_rfl) (by simp) ?_
            refine AllReadyH.cons (o := _) rfl (fun K hK => ?_) (AllReadyH.nil)
            go_simp
            (go_at_call 18; refine (sSW_any _ _ _ _ _).mono ?_; rintro e x0c ⟨rfl, hw_0c⟩)
            refine hK.out _ _ ⟨blk_next hP_0 hw_0c, blk_next hQ_0 hw_0c, blk_next hR_0 hw_0c, blk_next hA_0 hw_0c, blk_next hD_0 hw_0c, bel_next hB_0 hw_0c⟩ (fun hHeld => ?_)
            clear hK K
            try simp only [Act.put, List.getElem_toArray, List.getElem_cons_succ, List.getElem_cons_zero, List.setIfInBounds_toArray, List.set_cons_zero, List.set_cons_succ]
            obtain ⟨hP_0c, hQ_0c, hR_0c, hA_0c, hD_0c, hB_0c⟩ := id hHeld
            refine wpAnyH_take (i := 3) (oi := _) (v := ?_) rfl (by kernel_rfl) (by kernel_rfl) (by kernel_rfl) (fun _ _ _ h => h) (Or.inl ⟨by rfl, ?_⟩) (by assumption) ?_
            (rotate_left); (focus (intro wv hSw; (obtain ⟨qP, qQ, qR, qA, qD, qB⟩ := hSw); obtain ⟨_, _, _, _, _⟩ := blk2 qP; obtain ⟨_, _, _, _, _⟩ := blk2 qQ; obtain ⟨_, _, _, _, _⟩ := blk2 qR; obtain ⟨_, _, _, _, _⟩ := blk2 qA; obtain ⟨_, _, _, _, _⟩ := blk2 qD; go_simp; (try with_reducible rfl)))
            try simp only [Act.put, List.getElem_toArray, List.getElem_cons_succ, List.getElem_cons_zero, List.setIfInBounds_toArray, List.set_cons_zero, List.set_cons_succ]
            refine wpAnyH_take (i := 4) (oi := _) (v := ?_) rfl (by kernel_rfl) (by kernel_rfl) (by kernel_rfl) (fun _ _ _ h => h) (Or.inl ⟨by rfl, ?_⟩) (by assumption) ?_
            (rotate_left); (focus (intro wv hSw; (obtain ⟨qP, qQ, qR, qA, qD, qB⟩ := hSw); obtain ⟨_, _, _, _, _⟩ := blk2 qP; obtain ⟨_, _, _, _, _⟩ := blk2 qQ; obtain ⟨_, _, _, _, _⟩ := blk2 qR; obtain ⟨_, _, _, _, _⟩ := blk2 qA; obtain ⟨_, _, _, _, _⟩ := blk2 qD; go_simp; (try with_reducible rfl)))
            try simp only [Act.put, List.getElem_toArray, List.getElem_cons_succ, List.getElem_cons_zero, List.setIfInBounds_toArray, List.set_cons_zero, List.set_cons_succ]
            refine wpAnyH_take (i := 6) (oi := _) (v := ?_) rfl (by kernel_rfl) (by kernel_rfl) (by kernel_rfl) (fun _ _ _ h => h) (Or.inl ⟨by rfl, ?_⟩) (by assumption) ?_
            (rotate_left); (focus (intro wv hSw; (obtain ⟨qP, qQ, qR, qA, qD, qB⟩ := hSw); obtain ⟨_, _, _, _, _⟩ := blk2 qP; obtain ⟨_, _, _, _, _⟩ := blk2 qQ; obtain ⟨_, _, _, _, _⟩ := blk2 qR; obtain ⟨_, _, _, _, _⟩ := blk2 qA; obtain ⟨_, _, _, _, _⟩ := blk2 qD; go_simp; (try with_reducible rfl)))
            try simp only [Act.put, List.getElem_toArray, List.getElem_cons_succ, List.getElem_cons_zero, List.setIfInBounds_toArray, List.set_cons_zero, List.set_cons_succ]
            refine wpAnyH_ready (rs := [5]) (by kernel_rfl) (by simp) ?_
            refine AllReadyH.cons (o := _) rfl (fun K hK => ?_) (AllReadyH.nil)
            go_simp
            (go_at_call 44; refine (sHalf_any _ _ _).mono ?_; rintro e x0cc ⟨rfl, hw_0cc⟩)
            refine hK.out _ _ ⟨blk_next hP_0c hw_0cc, blk_next hQ_0c hw_0cc, blk_next hR_0c hw_0cc, blk_next hA_0c hw_0cc, blk_next hD_0c hw_0cc, bel_next hB_0c hw_0cc⟩ (fun hHeld => ?_)
            clear hK K
            try simp only [Act.put, List.getElem_toArray, List.getElem_cons_succ, List.getElem_cons_zero, List.setIfInBounds_toArray, List.set_cons_zero, List.set_cons_succ]
            obtain ⟨hP_0cc, hQ_0cc, hR_0cc, hA_0cc, hD_0cc, hB_0cc⟩ := id hHeld
            refine wpAnyH_ready (rs := [7]) (by kernel_rfl) (by simp) ?_
            refine AllReadyH.cons (o := _) rfl (fun K hK => ?_) (AllReadyH.nil)
            go_simp
            (go_at_call 44; refine (sHalf_any _ _ _).mono ?_; rintro e x0ccc ⟨rfl, hw_0ccc⟩)
            refine hK.out _ _ ⟨blk_next hP_0cc hw_0ccc, blk_next hQ_0cc hw_0ccc, blk_next hR_0cc hw_0ccc, blk_next hA_0cc hw_0ccc, blk_next hD_0cc hw_0ccc, bel_next hB_0cc hw_0ccc⟩ (fun hHeld => ?_)
            clear hK K
            try simp only [Act.put, List.getElem_toArray, List.getElem_cons_succ, List.getElem_cons_zero, List.setIfInBounds_toArray, List.set_cons_zero, List.set_cons_succ]
            obtain ⟨hP_0ccc, hQ_0ccc, hR_0ccc, hA_0ccc, hD_0ccc, hB_0ccc⟩ := id hHeld
            refine wpAnyH_take (i := 8) (oi := _) (v := ?_) rfl (by kernel_rfl) (by kernel_rfl) (by kernel_rfl) (fun _ _ _ h => h) (Or.inl ⟨by rfl, ?_⟩) (by assumption) ?_
            (rotate_left); (focus (intro wv hSw; (obtain ⟨qP, qQ, qR, qA, qD, qB⟩ := hSw); obtain ⟨_, _, _, _, _⟩ := blk2 qP; obtain ⟨_, _, _, _, _⟩ := blk2 qQ; obtain ⟨_, _, _, _, _⟩ := blk2 qR; obtain ⟨_, _, _, _, _⟩ := blk2 qA; obtain ⟨_, _, _, _, _⟩ := blk2 qD; go_simp; (try with_reducible rfl)))
            try simp only [Act.put, List.getElem_toArray, List.getElem_cons_succ, List.getElem_cons_zero, List.setIfInBounds_toArray, List.set_cons_zero, List.set_cons_succ]
            refine wpAnyH_take (i := 9) (oi := _) (v := ?_) rfl (by kernel_rfl) (by kernel_rfl) (by kernel_rfl) (fun _ _ _ h => h) (Or.inl ⟨by rfl, ?_⟩) (by assumption) ?_
            (rotate_left); (focus (intro wv hSw; (obtain ⟨qP, qQ, qR, qA, qD, qB⟩ := hSw); obtain ⟨_, _, _, _, _⟩ := blk2 qP; obtain ⟨_, _, _, _, _⟩ := blk2 qQ; obtain ⟨_, _, _, _, _⟩ := blk2 qR; obtain ⟨_, _, _, _, _⟩ := blk2 qA; obtain ⟨_, _, _, _, _⟩ := blk2 qD; go_simp; (try with_reducible rfl)))
            try simp only [Act.put, List.getElem_toArray, List.getElem_cons_succ, List.getElem_cons_zero, List.setIfInBounds_toArray, List.set_cons_zero, List.set_cons_succ]
            refine wpAnyH_take (i := 10) (oi := _) (v := ?_) rfl (by kernel_rfl) (by kernel_rfl) (by kernel_rfl) (fun _ _ _ h => h) (Or.inl ⟨by rfl, ?_⟩) (by assumption) ?_
            (rotate_left); (focus (intro wv hSw; (obtain ⟨qP, qQ, qR, qA, qD, qB⟩ := hSw); obtain ⟨_, _, _, _, _⟩ := blk2 qP; obtain ⟨_, _, _, _, _⟩ := blk2 qQ; obtain ⟨_, _, _, _, _⟩ := blk2 qR; obtain ⟨_, _, _, _, _⟩ := blk2 qA; obtain ⟨_, _, _, _, _⟩ := blk2 qD; go_simp; (try with_reducible rfl)))
            try simp only [Act.put, List.getElem_toArray, List.getElem_cons_succ, List.getElem_cons_zero, List.setIfInBounds_toArray, List.set_cons_zero, List.set_cons_succ]
            refine wpAnyH_take (i := 11) (oi := _) (v := undef) rfl (by kernel_rfl) (by kernel_rfl) (by kernel_rfl) (fun _ _ _ h => h) (Or.inr ⟨by kernel_rfl, rfl⟩) (by assumption) ?_
            try simp only [Act.put, List.getElem_toArray, List.getElem_cons_succ, List.getElem_cons_zero, List.setIfInBounds_toArray, List.set_cons_zero, List.set_cons_succ]
            refine wpAnyH_take (i := 13) (oi := _) (v := undef) rfl (by kernel_rfl) (by kernel_rfl) (by kernel_rfl) (fun _ _ _ h => h) (Or.inr ⟨by kernel_rfl, rfl⟩) (by assumption) ?_
            try simp only [Act.put, List.getElem_toArray, List.getElem_cons_succ, List.getElem_cons_zero, List.setIfInBounds_toArray, List.set_cons_zero, List.set_cons_succ]
            refine wpAnyH_take (i := 12) (oi := _) (v := undef) rfl (by kernel_rfl) (by kernel_rfl) (by kernel_rfl) (fun _ _ _ h => h) (Or.inr ⟨by kernel_rfl, rfl⟩) (by assumption) ?_
            try simp only [Act.put, List.getElem_toArray, List.getElem_cons_succ, List.getElem_cons_zero, List.setIfInBounds_toArray, List.set_cons_zero, List.set_cons_succ]
            refine wpAnyH_take (i := 14) (oi := _) (v := undef) rfl (by kernel_rfl) (by kernel_rfl) (by kernel_rfl) (fun _ _ _ h => h) (Or.inr ⟨by kernel_rfl, rfl⟩) (by assumption) ?_
            try simp only [Act.put, List.getElem_toArray, List.getElem_cons_succ, List.getElem_cons_zero, List.setIfInBounds_toArray, List.set_cons_zero, List.set_cons_succ]
            refine wpAnyH_take (i := 15) (oi := _) (v := undef) rfl (by kernel_rfl) (by kernel_rfl) (by kernel_rfl) (fun _ _ _ h => h) (Or.inr ⟨by kernel_rfl, rfl⟩) (by assumption) ?_
            try simp only [Act.put, List.getElem_toArray, List.getElem_cons_succ, List.getElem_cons_zero, List.setIfInBounds_toArray, List.set_cons_zero, List.set_cons_succ]
            refine wpAnyH_take (i := 16) (oi := _) (v := undef) rfl (by kernel_rfl) (by kernel_rfl) (by kernel_rfl) (fun _ _ _ h => h) (Or.inr ⟨by kernel_rfl, rfl⟩) (by assumption) ?_
            try simp only [Act.put, List.getElem_toArray, List.getElem_cons_succ, List.getElem_cons_zero, List.setIfInBounds_toArray, List.set_cons_zero, List.set_cons_succ]
            refine wpAnyH_take (i := 17) (oi := _) (v := undef) rfl (by kernel_rfl) (by kernel_rfl) (by kernel_rfl) (fun _ _ _ h => h) (Or.inr ⟨by kernel_rfl, rfl⟩) (by assumption) ?_
            try simp only [Act.put, List.getElem_toArray, List.getElem_cons_succ, List.getElem_cons_zero, List.setIfInBounds_toArray, List.set_cons_zero, List.set_cons_succ]
            refine wpAnyH_take (i := 18) (oi := _) (v := undef) rfl (by kernel_rfl) (by kernel_rfl) (by kernel_rfl) (fun _ _ _ h => h) (Or.inr ⟨by kernel_rfl, rfl⟩) (by assumption) ?_
            try simp only [Act.put, List.getElem_toArray, List.getElem_cons_succ, List.getElem_cons_zero, List.setIfInBounds_toArray, List.set_cons_zero, List.set_cons_succ]
            refine wpAnyH_take (i := 19) (oi := _) (v := undef) rfl (by kernel_rfl) (by kernel_rfl) (by kernel_rfl) (fun _ _ _ h => h) (Or.inr ⟨by kernel_rfl, rfl⟩) (by assumption) ?_
            try simp only [Act.put, List.getElem_toArray, List.getElem_cons_succ, List.getElem_cons_zero, List.setIfInBounds_toArray, List.set_cons_zero, List.set_cons_succ]
            refine wpAnyH_take (i := 20) (oi := _) (v := undef) rfl (by kernel_rfl) (by kernel_rfl) (by kernel_rfl) (fun _ _ _ h => h) (Or.inr ⟨by kernel_rfl, rfl⟩) (by assumption) ?_
            try simp only [Act.put, List.getElem_toArray, List.getElem_cons_succ, List.getElem_cons_zero, List.setIfInBounds_toArray, List.set_cons_zero, List.set_cons_succ]
            refine wpAnyH_take (i := 21) (oi := _) (v := undef) rfl (by kernel_rfl) (by kernel_rfl) (by kernel_rfl) (fun _ _ _ h => h) (Or.inr ⟨by kernel_rfl, rfl⟩) (by assumption) ?_
            try simp only [Act.put, List.getElem_toArray, List.getElem_cons_succ, List.getElem_cons_zero, List.setIfInBounds_toArray, List.set_cons_zero, List.set_cons_succ]
            refine wpAnyH_take (i := 22) (oi := _) (v := ?_) rfl (by kernel_rfl) (by kernel_rfl) (by kernel_rfl) (fun _ _ _ h => h) (Or.inl ⟨by rfl, ?_⟩) (by assumption) ?_
            (rotate_left); (focus (intro wv hSw; (obtain ⟨qP, qQ, qR, qA, qD, qB⟩ := hSw); obtain ⟨_, _, _, _, _⟩ := blk2 qP; obtain ⟨_, _, _, _, _⟩ := blk2 qQ; obtain ⟨_, _, _, _, _⟩ := blk2 qR; obtain ⟨_, _, _, _, _⟩ := blk2 qA; obtain ⟨_, _, _, _, _⟩ := blk2 qD; go_simp; (try with_reducible rfl)))
            try simp only [Act.put, List.getElem_toArray, List.getElem_cons_succ, List.getElem_cons_zero, List.setIfInBounds_toArray, List.set_cons_zero, List.set_cons_succ]
            refine wpAnyH_take (i := 23) (oi := _) (v := ?_) rfl (by kernel_rfl) (by kernel_rfl) (by kernel_rfl) (fun _ _ _ h => h) (Or.inl ⟨by rfl, ?_⟩) (by assumption) ?_
            (rotate_left); (focus (intro wv hSw; (obtain ⟨qP, qQ, qR, qA, qD, qB⟩ := hSw); obtain ⟨_, _, _, _, _⟩ := blk2 qP; obtain ⟨_, _, _, _, _⟩ := blk2 qQ; obtain ⟨_, _, _, _, _⟩ := blk2 qR; obtain ⟨_, _, _, _, _⟩ := blk2 qA; obtain ⟨_, _, _, _, _⟩ := blk2 qD; go_simp; (try with_reducible rfl)))
            try simp only [Act.put, List.getElem_toArray, List.getElem_cons_succ, List.getElem_cons_zero, List.setIfInBounds_toArray, List.set_cons_zero, List.set_cons_succ]
            refine wpAnyH_done (by kernel_rfl) ?_ _
            go_wp2_with fail
            go_ret
            exact ⟨ret_bool (by rw [HR2.out]; unfold btB befB Bef; rw [HC.out]; simp [E1.out]), hB_0ccc⟩
          · have d1 : decide (halfI (tE u1 u2 f1 (-f2)) (tN u1 u2 f1 (-f2)) < halfI (tE t1 t2 f1 (-f2)) (tN t1 t2 f1 (-f2))) = false := by simp; omega
            have d2 : (halfI (tE u1 u2 f1 (-f2)) (tN u1 u2 f1 (-f2)) == halfI (tE t1 t2 f1 (-f2)) (tN t1 t2 f1 (-f2))) = true := by simpa using e1
            have E1 := Lib.hid e1
            clear e1
            refine wp_region_held_drew (S := (fun w' => w'.heap[w.heap.size]? = some (.cells #[.int .i64 u1, .int .i64 u2] 24) ∧ w'.heap[w.heap.size + 1]? = some (.cells #[.int .i64 f1, .int .i64 f2] 24) ∧ w'.heap[w.heap.size + 1 + 1]? = some (.cells #[.int .i64 t1, .int .i64 t2] 24) ∧ w'.heap[C]? = some (.cells #[.int .i64 (tE u1 u2 f1 (-f2)), .int .i64 (tN u1 u2 f1 (-f2))] 24) ∧ w'.heap[D]? = some (.cells #[.int .i64 (tE t1 t2 f1 (-f2)), .int .i64 (tN t1 t2 f1 (-f2))] 24) ∧ Below w.heap.size w w')) (by kernel_rfl) ⟨hP1, hQ1, hR1, hA1, hD1, hB1.drew⟩ (fun hHeld => ?_)
            obtain ⟨hP_0, hQ_0, hR_0, hA_0, hD_0, hB_0⟩ := id hHeld
            refine wpAnyH_take (i := 0) (oi := _) (v := ?_) rfl (by kernel_rfl) (by kernel_rfl) (by kernel_rfl) (fun _ _ _ h => h) (Or.inl ⟨by rfl, ?_⟩) (by assumption) ?_
            (rotate_left); (focus (intro wv hSw; (obtain ⟨qP, qQ, qR, qA, qD, qB⟩ := hSw); obtain ⟨_, _, _, _, _⟩ := blk2 qP; obtain ⟨_, _, _, _, _⟩ := blk2 qQ; obtain ⟨_, _, _, _, _⟩ := blk2 qR; obtain ⟨_, _, _, _, _⟩ := blk2 qA; obtain ⟨_, _, _, _, _⟩ := blk2 qD; go_simp; (try with_reducible rfl)))
            try simp only [Act.put, List.getElem_toArray, List.getElem_cons_succ, List.getElem_cons_zero, List.setIfInBounds_toArray, List.set_cons_zero, List.set_cons_succ]
            refine wpAnyH_take (i := 1) (oi := _) (v := ?_) rfl (by kernel_rfl) (by kernel_rfl) (by kernel_rfl) (fun _ _ _ h => h) (Or.inl ⟨by rfl, ?_⟩) (by assumption) ?_
            (rotate_left); (focus (intro wv hSw; (obtain ⟨qP, qQ, qR, qA, qD, qB⟩ := hSw); obtain ⟨_, _, _, _, _⟩ := blk2 qP; obtain ⟨_, _, _, _, _⟩ := blk2 qQ; obtain ⟨_, _, _, _, _⟩ := blk2 qR; obtain ⟨_, _, _, _, _⟩ := blk2 qA; obtain ⟨_, _, _, _, _⟩ := blk2 qD; go_simp; (try with_reducible rfl)))
            try simp only [Act.put, List.getElem_toArray, List.getElem_cons_succ, List.getElem_cons_zero, List.setIfInBounds_toArray, List.set_cons_zero, List.set_cons_succ]
            refine wpAnyH_ready (rs := [2]) (by kernel_rfl) (by simp) ?_
            refine AllReadyH.cons (o := _) rfl (fun K hK => ?_) (AllReadyH.nil)
            go_simp
            (go_at_call 18; refine (sSW_any _ _ _ _ _).mono ?_; rintro e x0c ⟨rfl, hw_0c⟩)
            refine hK.out _ _ ⟨blk_next hP_0 hw_0c, blk_next hQ_0 hw_0c, blk_next hR_0 hw_0c, blk_next hA_0 hw_0c, blk_next hD_0 hw_0c, bel_next hB_0 hw_0c⟩ (fun hHeld => ?_)
            clear hK K
            try simp only [Act.put, List.getElem_toArray, List.getElem_cons_succ, List.getElem_cons_zero, List.setIfInBounds_toArray, List.set_cons_zero, List.set_cons_succ]
            obtain ⟨hP_0c, hQ_0c, hR_0c, hA_0c, hD_0c, hB_0c⟩ := id hHeld
            refine wpAnyH_take (i := 3) (oi := _) (v := ?_) rfl (by kernel_rfl) (by kernel_rfl) (by kernel_rfl) (fun _ _ _ h => h) (Or.inl ⟨by rfl, ?_⟩) (by assumption) ?_
            (rotate_left); (focus (intro wv hSw; (obtain ⟨qP, qQ, qR, qA, qD, qB⟩ := hSw); obtain ⟨_, _, _, _, _⟩ := blk2 qP; obtain ⟨_, _, _, _, _⟩ := blk2 qQ; obtain ⟨_, _, _, _, _⟩ := blk2 qR; obtain ⟨_, _, _, _, _⟩ := blk2 qA; obtain ⟨_, _, _, _, _⟩ := blk2 qD; go_simp; (try with_reducible rfl)))
            try simp only [Act.put, List.getElem_toArray, List.getElem_cons_succ, List.getElem_cons_zero, List.setIfInBounds_toArray, List.set_cons_zero, List.set_cons_succ]
            refine wpAnyH_take (i := 4) (oi := _) (v := ?_) rfl (by kernel_rfl) (by kernel_rfl) (by kernel_rfl) (fun _ _ _ h => h) (Or.inl ⟨by rfl, ?_⟩) (by assumption) ?_
            (rotate_left); (focus (intro wv hSw; (obtain ⟨qP, qQ, qR, qA, qD, qB⟩ := hSw); obtain ⟨_, _, _, _, _⟩ := blk2 qP; obtain ⟨_, _, _, _, _⟩ := blk2 qQ; obtain ⟨_, _, _, _, _⟩ := blk2 qR; obtain ⟨_, _, _, _, _⟩ := blk2 qA; obtain ⟨_, _, _, _, _⟩ := blk2 qD; go_simp; (try with_reducible rfl)))
            try simp only [Act.put, List.getElem_toArray, List.getElem_cons_succ, List.getElem_cons_zero, List.setIfInBounds_toArray, List.set_cons_zero, List.set_cons_succ]
            refine wpAnyH_take (i := 6) (oi := _) (v := ?_) rfl (by kernel_rfl) (by kernel_rfl) (by kernel_rfl) (fun _ _ _ h => h) (Or.inl ⟨by rfl, ?_⟩) (by assumption) ?_
            (rotate_left); (focus (intro wv hSw; (obtain ⟨qP, qQ, qR, qA, qD, qB⟩ := hSw); obtain ⟨_, _, _, _, _⟩ := blk2 qP; obtain ⟨_, _, _, _, _⟩ := blk2 qQ; obtain ⟨_, _, _, _, _⟩ := blk2 qR; obtain ⟨_, _, _, _, _⟩ := blk2 qA; obtain ⟨_, _, _, _, _⟩ := blk2 qD; go_simp; (try with_reducible rfl)))
            try simp only [Act.put, List.getElem_toArray, List.getElem_cons_succ, List.getElem_cons_zero, List.setIfInBounds_toArray, List.set_cons_zero, List.set_cons_succ]
            refine wpAnyH_ready (rs := [5]) (by kernel_rfl) (by simp) ?_
            refine AllReadyH.cons (o := _) rfl (fun K hK => ?_) (AllReadyH.nil)
            go_simp
            (go_at_call 44; refine (sHalf_any _ _ _).mono ?_; rintro e x0cc ⟨rfl, hw_0cc⟩)
            refine hK.out _ _ ⟨blk_next hP_0c hw_0cc, blk_next hQ_0c hw_0cc, blk_next hR_0c hw_0cc, blk_next hA_0c hw_0cc, blk_next hD_0c hw_0cc, bel_next hB_0c hw_0cc⟩ (fun hHeld => ?_)
            clear hK K
            try simp only [Act.put, List.getElem_toArray, List.getElem_cons_succ, List.getElem_cons_zero, List.setIfInBounds_toArray, List.set_cons_zero, List.set_cons_succ]
            obtain ⟨hP_0cc, hQ_0cc, hR_0cc, hA_0cc, hD_0cc, hB_0cc⟩ := id hHeld
            refine wpAnyH_ready (rs := [7]) (by kernel_rfl) (by simp) ?_
            refine AllReadyH.cons (o := _) rfl (fun K hK => ?_) (AllReadyH.nil)
            go_simp
            (go_at_call 44; refine (sHalf_any _ _ _).mono ?_; rintro e x0ccc ⟨rfl, hw_0ccc⟩)
            refine hK.out _ _ ⟨blk_next hP_0cc hw_0ccc, blk_next hQ_0cc hw_0ccc, blk_next hR_0cc hw_0ccc, blk_next hA_0cc hw_0ccc, blk_next hD_0cc hw_0ccc, bel_next hB_0cc hw_0ccc⟩ (fun hHeld => ?_)
            clear hK K
            try simp only [Act.put, List.getElem_toArray, List.getElem_cons_succ, List.getElem_cons_zero, List.setIfInBounds_toArray, List.set_cons_zero, List.set_cons_succ]
            obtain ⟨hP_0ccc, hQ_0ccc, hR_0ccc, hA_0ccc, hD_0ccc, hB_0ccc⟩ := id hHeld
            refine wpAnyH_take (i := 8) (oi := _) (v := ?_) rfl (by kernel_rfl) (by kernel_rfl) (by kernel_rfl) (fun _ _ _ h => h) (Or.inl ⟨by rfl, ?_⟩) (by assumption) ?_
            (rotate_left); (focus (intro wv hSw; (obtain ⟨qP, qQ, qR, qA, qD, qB⟩ := hSw); obtain ⟨_, _, _, _, _⟩ := blk2 qP; obtain ⟨_, _, _, _, _⟩ := blk2 qQ; obtain ⟨_, _, _, _, _⟩ := blk2 qR; obtain ⟨_, _, _, _, _⟩ := blk2 qA; obtain ⟨_, _, _, _, _⟩ := blk2 qD; go_simp; (try with_reducible rfl)))
            try simp only [Act.put, List.getElem_toArray, List.getElem_cons_succ, List.getElem_cons_zero, List.setIfInBounds_toArray, List.set_cons_zero, List.set_cons_succ]
            refine wpAnyH_take (i := 9) (oi := _) (v := ?_) rfl (by kernel_rfl) (by kernel_rfl) (by kernel_rfl) (fun _ _ _ h => h) (Or.inl ⟨by rfl, ?_⟩) (by assumption) ?_
            (rotate_left); (focus (intro wv hSw; (obtain ⟨qP, qQ, qR, qA, qD, qB⟩ := hSw); obtain ⟨_, _, _, _, _⟩ := blk2 qP; obtain ⟨_, _, _, _, _⟩ := blk2 qQ; obtain ⟨_, _, _, _, _⟩ := blk2 qR; obtain ⟨_, _, _, _, _⟩ := blk2 qA; obtain ⟨_, _, _, _, _⟩ := blk2 qD; go_simp; (try with_reducible rfl)))
            try simp only [Act.put, List.getElem_toArray, List.getElem_cons_succ, List.getElem_cons_zero, List.setIfInBounds_toArray, List.set_cons_zero, List.set_cons_succ]
            refine wpAnyH_take (i := 10) (oi := _) (v := ?_) rfl (by kernel_rfl) (by kernel_rfl) (by kernel_rfl) (fun _ _ _ h => h) (Or.inl ⟨by rfl, ?_⟩) (by assumption) ?_
            (rotate_left); (focus (intro wv hSw; (obtain ⟨qP, qQ, qR, qA, qD, qB⟩ := hSw); obtain ⟨_, _, _, _, _⟩ := blk2 qP; obtain ⟨_, _, _, _, _⟩ := blk2 qQ; obtain ⟨_, _, _, _, _⟩ := blk2 qR; obtain ⟨_, _, _, _, _⟩ := blk2 qA; obtain ⟨_, _, _, _, _⟩ := blk2 qD; go_simp; (try with_reducible rfl)))
            try simp only [Act.put, List.getElem_toArray, List.getElem_cons_succ, List.getElem_cons_zero, List.setIfInBounds_toArray, List.set_cons_zero, List.set_cons_succ]
            refine wpAnyH_take (i := 11) (oi := _) (v := ?_) rfl (by kernel_rfl) (by kernel_rfl) (by kernel_rfl) (fun _ _ _ h => h) (Or.inl ⟨by rfl, ?_⟩) (by assumption) ?_
            (rotate_left); (focus (intro wv hSw; (obtain ⟨qP, qQ, qR, qA, qD, qB⟩ := hSw); obtain ⟨_, _, _, _, _⟩ := blk2 qP; obtain ⟨_, _, _, _, _⟩ := blk2 qQ; obtain ⟨_, _, _, _, _⟩ := blk2 qR; obtain ⟨_, _, _, _, _⟩ := blk2 qA; obtain ⟨_, _, _, _, _⟩ := blk2 qD; go_simp; (try with_reducible rfl)))
            try simp only [Act.put, List.getElem_toArray, List.getElem_cons_succ, List.getElem_cons_zero, List.setIfInBounds_toArray, List.set_cons_zero, List.set_cons_succ]
            refine wpAnyH_take (i := 13) (oi := _) (v := ?_) rfl (by kernel_rfl) (by kernel_rfl) (by kernel_rfl) (fun _ _ _ h => h) (Or.inl ⟨by rfl, ?_⟩) (by assumption) ?_
            (rotate_left); (focus (intro wv hSw; (obtain ⟨qP, qQ, qR, qA, qD, qB⟩ := hSw); obtain ⟨_, _, _, _, _⟩ := blk2 qP; obtain ⟨_, _, _, _, _⟩ := blk2 qQ; obtain ⟨_, _, _, _, _⟩ := blk2 qR; obtain ⟨_, _, _, _, _⟩ := blk2 qA; obtain ⟨_, _, _, _, _⟩ := blk2 qD; go_simp; (try with_reducible rfl)))
            try simp only [Act.put, List.getElem_toArray, List.getElem_cons_succ, List.getElem_cons_zero, List.setIfInBounds_toArray, List.set_cons_zero, List.set_cons_succ]
            refine wpAnyH_ready (rs := [12]) (by kernel_rfl) (by simp) ?_
            refine AllReadyH.cons (o := _) rfl (fun K hK => ?_) (AllReadyH.nil)
            go_simp
            (go_at_call 44; refine (sHalf_any _ _ _).mono ?_; rintro e x0cccc ⟨rfl, hw_0cccc⟩)
            refine hK.out _ _ ⟨blk_next hP_0ccc hw_0cccc, blk_next hQ_0ccc hw_0cccc, blk_next hR_0ccc hw_0cccc, blk_next hA_0ccc hw_0cccc, blk_next hD_0ccc hw_0cccc, bel_next hB_0ccc hw_0cccc⟩ (fun hHeld => ?_)
            clear hK K
            try simp only [Act.put, List.getElem_toArray, List.getElem_cons_succ, List.getElem_cons_zero, List.setIfInBounds_toArray, List.set_cons_zero, List.set_cons_succ]
            obtain ⟨hP_0cccc, hQ_0cccc, hR_0cccc, hA_0cccc, hD_0cccc, hB_0cccc⟩ := id hHeld
            refine wpAnyH_ready (rs := [14]) (by kernel_rfl) (by simp) ?_
            refine AllReadyH.cons (o := _) rfl (fun K hK => ?_) (AllReadyH.nil)
            go_simp
            (go_at_call 44; refine (sHalf_any _ _ _).mono ?_; rintro e x0ccccc ⟨rfl, hw_0ccccc⟩)
            refine hK.out _ _ ⟨blk_next hP_0cccc hw_0ccccc, blk_next hQ_0cccc hw_0ccccc, blk_next hR_0cccc hw_0ccccc, blk_next hA_0cccc hw_0ccccc, blk_next hD_0cccc hw_0ccccc, bel_next hB_0cccc hw_0ccccc⟩ (fun hHeld => ?_)
            clear hK K
            try simp only [Act.put, List.getElem_toArray, List.getElem_cons_succ, List.getElem_cons_zero, List.setIfInBounds_toArray, List.set_cons_zero, List.set_cons_succ]
            obtain ⟨hP_0ccccc, hQ_0ccccc, hR_0ccccc, hA_0ccccc, hD_0ccccc, hB_0ccccc⟩ := id hHeld
            refine wpAnyH_take (i := 15) (oi := _) (v := ?_) rfl (by kernel_rfl) (by kernel_rfl) (by kernel_rfl) (fun _ _ _ h => h) (Or.inl ⟨by rfl, ?_⟩) (by assumption) ?_
            (rotate_left); (focus (intro wv hSw; (obtain ⟨qP, qQ, qR, qA, qD, qB⟩ := hSw); obtain ⟨_, _, _, _, _⟩ := blk2 qP; obtain ⟨_, _, _, _, _⟩ := blk2 qQ; obtain ⟨_, _, _, _, _⟩ := blk2 qR; obtain ⟨_, _, _, _, _⟩ := blk2 qA; obtain ⟨_, _, _, _, _⟩ := blk2 qD; go_simp; (try with_reducible rfl)))
            try simp only [Act.put, List.getElem_toArray, List.getElem_cons_succ, List.getElem_cons_zero, List.setIfInBounds_toArray, List.set_cons_zero, List.set_cons_succ]
            refine wpAnyH_take (i := 16) (oi := _) (v := ?_) rfl (by kernel_rfl) (by kernel_rfl) (by kernel_rfl) (fun _ _ _ h => h) (Or.inl ⟨by rfl, ?_⟩) (by assumption) ?_
            (rotate_left); (focus (intro wv hSw; (obtain ⟨qP, qQ, qR, qA, qD, qB⟩ := hSw); obtain ⟨_, _, _, _, _⟩ := blk2 qP; obtain ⟨_, _, _, _, _⟩ := blk2 qQ; obtain ⟨_, _, _, _, _⟩ := blk2 qR; obtain ⟨_, _, _, _, _⟩ := blk2 qA; obtain ⟨_, _, _, _, _⟩ := blk2 qD; go_simp; (try with_reducible rfl)))
            try simp only [Act.put, List.getElem_toArray, List.getElem_cons_succ, List.getElem_cons_zero, List.setIfInBounds_toArray, List.set_cons_zero, List.set_cons_succ]
            refine wpAnyH_take (i := 17) (oi := _) (v := ?_) rfl (by kernel_rfl) (by kernel_rfl) (by kernel_rfl) (fun _ _ _ h => h) (Or.inl ⟨by rfl, ?_⟩) (by assumption) ?_
            (rotate_left); (focus (intro wv hSw; (obtain ⟨qP, qQ, qR, qA, qD, qB⟩ := hSw); obtain ⟨_, _, _, _, _⟩ := blk2 qP; obtain ⟨_, _, _, _, _⟩ := blk2 qQ; obtain ⟨_, _, _, _, _⟩ := blk2 qR; obtain ⟨_, _, _, _, _⟩ := blk2 qA; obtain ⟨_, _, _, _, _⟩ := blk2 qD; go_simp; (try with_reducible rfl)))
            try simp only [Act.put, List.getElem_toArray, List.getElem_cons_succ, List.getElem_cons_zero, List.setIfInBounds_toArray, List.set_cons_zero, List.set_cons_succ]
            refine wpAnyH_take (i := 18) (oi := _) (v := ?_) rfl (by kernel_rfl) (by kernel_rfl) (by kernel_rfl) (fun _ _ _ h => h) (Or.inl ⟨by rfl, ?_⟩) (by assumption) ?_
            (rotate_left); (focus (intro wv hSw; (obtain ⟨qP, qQ, qR, qA, qD, qB⟩ := hSw); obtain ⟨_, _, _, _, _⟩ := blk2 qP; obtain ⟨_, _, _, _, _⟩ := blk2 qQ; obtain ⟨_, _, _, _, _⟩ := blk2 qR; obtain ⟨_, _, _, _, _⟩ := blk2 qA; obtain ⟨_, _, _, _, _⟩ := blk2 qD; go_simp; (try with_reducible rfl)))
            try simp only [Act.put, List.getElem_toArray, List.getElem_cons_succ, List.getElem_cons_zero, List.setIfInBounds_toArray, List.set_cons_zero, List.set_cons_succ]
            refine wpAnyH_ready (rs := [19]) (by kernel_rfl) (by simp) ?_
            refine AllReadyH.cons (o := _) rfl (fun K hK => ?_) (AllReadyH.nil)
            go_simp
            (go_at_call 45; refine (sCro_any _ _ _ _ _).mono ?_; rintro e x0cccccc ⟨rfl, hw_0cccccc⟩)
            refine hK.out _ _ ⟨blk_next hP_0ccccc hw_0cccccc, blk_next hQ_0ccccc hw_0cccccc, blk_next hR_0ccccc hw_0cccccc, blk_next hA_0ccccc hw_0cccccc, blk_next hD_0ccccc hw_0cccccc, bel_next hB_0ccccc hw_0cccccc⟩ (fun hHeld => ?_)
            clear hK K
            try simp only [Act.put, List.getElem_toArray, List.getElem_cons_succ, List.getElem_cons_zero, List.setIfInBounds_toArray, List.set_cons_zero, List.set_cons_succ]
            obtain ⟨hP_0cccccc, hQ_0cccccc, hR_0cccccc, hA_0cccccc, hD_0cccccc, hB_0cccccc⟩ := id hHeld
            refine wpAnyH_take (i := 20) (oi := _) (v := ?_) rfl (by kernel_rfl) (by kernel_rfl) (by kernel_rfl) (fun _ _ _ h => h) (Or.inl ⟨by rfl, ?_⟩) (by assumption) ?_
            (rotate_left); (focus (intro wv hSw; (obtain ⟨qP, qQ, qR, qA, qD, qB⟩ := hSw); obtain ⟨_, _, _, _, _⟩ := blk2 qP; obtain ⟨_, _, _, _, _⟩ := blk2 qQ; obtain ⟨_, _, _, _, _⟩ := blk2 qR; obtain ⟨_, _, _, _, _⟩ := blk2 qA; obtain ⟨_, _, _, _, _⟩ := blk2 qD; go_simp; (try with_reducible rfl)))
            try simp only [Act.put, List.getElem_toArray, List.getElem_cons_succ, List.getElem_cons_zero, List.setIfInBounds_toArray, List.set_cons_zero, List.set_cons_succ]
            refine wpAnyH_take (i := 21) (oi := _) (v := ?_) rfl (by kernel_rfl) (by kernel_rfl) (by kernel_rfl) (fun _ _ _ h => h) (Or.inl ⟨by rfl, ?_⟩) (by assumption) ?_
            (rotate_left); (focus (intro wv hSw; (obtain ⟨qP, qQ, qR, qA, qD, qB⟩ := hSw); obtain ⟨_, _, _, _, _⟩ := blk2 qP; obtain ⟨_, _, _, _, _⟩ := blk2 qQ; obtain ⟨_, _, _, _, _⟩ := blk2 qR; obtain ⟨_, _, _, _, _⟩ := blk2 qA; obtain ⟨_, _, _, _, _⟩ := blk2 qD; go_simp; (try with_reducible rfl)))
            try simp only [Act.put, List.getElem_toArray, List.getElem_cons_succ, List.getElem_cons_zero, List.setIfInBounds_toArray, List.set_cons_zero, List.set_cons_succ]
            refine wpAnyH_take (i := 22) (oi := _) (v := ?_) rfl (by kernel_rfl) (by kernel_rfl) (by kernel_rfl) (fun _ _ _ h => h) (Or.inl ⟨by rfl, ?_⟩) (by assumption) ?_
            (rotate_left); (focus (intro wv hSw; (obtain ⟨qP, qQ, qR, qA, qD, qB⟩ := hSw); obtain ⟨_, _, _, _, _⟩ := blk2 qP; obtain ⟨_, _, _, _, _⟩ := blk2 qQ; obtain ⟨_, _, _, _, _⟩ := blk2 qR; obtain ⟨_, _, _, _, _⟩ := blk2 qA; obtain ⟨_, _, _, _, _⟩ := blk2 qD; go_simp; (try with_reducible rfl)))
            try simp only [Act.put, List.getElem_toArray, List.getElem_cons_succ, List.getElem_cons_zero, List.setIfInBounds_toArray, List.set_cons_zero, List.set_cons_succ]
            refine wpAnyH_take (i := 23) (oi := _) (v := ?_) rfl (by kernel_rfl) (by kernel_rfl) (by kernel_rfl) (fun _ _ _ h => h) (Or.inl ⟨by rfl, ?_⟩) (by assumption) ?_
            (rotate_left); (focus (intro wv hSw; (obtain ⟨qP, qQ, qR, qA, qD, qB⟩ := hSw); obtain ⟨_, _, _, _, _⟩ := blk2 qP; obtain ⟨_, _, _, _, _⟩ := blk2 qQ; obtain ⟨_, _, _, _, _⟩ := blk2 qR; obtain ⟨_, _, _, _, _⟩ := blk2 qA; obtain ⟨_, _, _, _, _⟩ := blk2 qD; go_simp; (try with_reducible rfl)))
            try simp only [Act.put, List.getElem_toArray, List.getElem_cons_succ, List.getElem_cons_zero, List.setIfInBounds_toArray, List.set_cons_zero, List.set_cons_succ]
            refine wpAnyH_done (by kernel_rfl) ?_ _
            go_wp2_with fail
            go_ret
            exact ⟨ret_bool (by rw [HR2.out, hx.out]; unfold btB befB Bef; rw [HC.out, Bool.eq_iff_iff]; simp [E1.out]), hB_0cccccc⟩
          · have d1 : decide (halfI (tE u1 u2 f1 (-f2)) (tN u1 u2 f1 (-f2)) < halfI (tE t1 t2 f1 (-f2)) (tN t1 t2 f1 (-f2))) = false := by simp; omega
            have d2 : (halfI (tE u1 u2 f1 (-f2)) (tN u1 u2 f1 (-f2)) == halfI (tE t1 t2 f1 (-f2)) (tN t1 t2 f1 (-f2))) = false := by simp; omega
            have E1 := Lib.hid e1
            clear e1
            refine wp_region_held_drew (S := (fun w' => w'.heap[w.heap.size]? = some (.cells #[.int .i64 u1, .int .i64 u2] 24) ∧ w'.heap[w.heap.size + 1]? = some (.cells #[.int .i64 f1, .int .i64 f2] 24) ∧ w'.heap[w.heap.size + 1 + 1]? = some (.cells #[.int .i64 t1, .int .i64 t2] 24) ∧ w'.heap[C]? = some (.cells #[.int .i64 (tE u1 u2 f1 (-f2)), .int .i64 (tN u1 u2 f1 (-f2))] 24) ∧ w'.heap[D]? = some (.cells #[.int .i64 (tE t1 t2 f1 (-f2)), .int .i64 (tN t1 t2 f1 (-f2))] 24) ∧ Below w.heap.size w w')) (by kernel_rfl) ⟨hP1, hQ1, hR1, hA1, hD1, hB1.drew⟩ (fun hHeld => ?_)
            obtain ⟨hP_0, hQ_0, hR_0, hA_0, hD_0, hB_0⟩ := id hHeld
            refine wpAnyH_take (i := 0) (oi := _) (v := ?_) rfl (by kernel_rfl) (by kernel_rfl) (by kernel_rfl) (fun _ _ _ h => h) (Or.inl ⟨by rfl, ?_⟩) (by assumption) ?_
            (rotate_left); (focus (intro wv hSw; (obtain ⟨qP, qQ, qR, qA, qD, qB⟩ := hSw); obtain ⟨_, _, _, _, _⟩ := blk2 qP; obtain ⟨_, _, _, _, _⟩ := blk2 qQ; obtain ⟨_, _, _, _, _⟩ := blk2 qR; obtain ⟨_, _, _, _, _⟩ := blk2 qA; obtain ⟨_, _, _, _, _⟩ := blk2 qD; go_simp; (try with_reducible rfl)))
            try simp only [Act.put, List.getElem_toArray, List.getElem_cons_succ, List.getElem_cons_zero, List.setIfInBounds_toArray, List.set_cons_zero, List.set_cons_succ]
            refine wpAnyH_take (i := 1) (oi := _) (v := ?_) rfl (by kernel_rfl) (by kernel_rfl) (by kernel_rfl) (fun _ _ _ h => h) (Or.inl ⟨by rfl, ?_⟩) (by assumption) ?_
            (rotate_left); (focus (intro wv hSw; (obtain ⟨qP, qQ, qR, qA, qD, qB⟩ := hSw); obtain ⟨_, _, _, _, _⟩ := blk2 qP; obtain ⟨_, _, _, _, _⟩ := blk2 qQ; obtain ⟨_, _, _, _, _⟩ := blk2 qR; obtain ⟨_, _, _, _, _⟩ := blk2 qA; obtain ⟨_, _, _, _, _⟩ := blk2 qD; go_simp; (try with_reducible rfl)))
            try simp only [Act.put, List.getElem_toArray, List.getElem_cons_succ, List.getElem_cons_zero, List.setIfInBounds_toArray, List.set_cons_zero, List.set_cons_succ]
            refine wpAnyH_ready (rs := [2]) (by kernel_rfl) (by simp) ?_
            refine AllReadyH.cons (o := _) rfl (fun K hK => ?_) (AllReadyH.nil)
            go_simp
            (go_at_call 18; refine (sSW_any _ _ _ _ _).mono ?_; rintro e x0c ⟨rfl, hw_0c⟩)
            refine hK.out _ _ ⟨blk_next hP_0 hw_0c, blk_next hQ_0 hw_0c, blk_next hR_0 hw_0c, blk_next hA_0 hw_0c, blk_next hD_0 hw_0c, bel_next hB_0 hw_0c⟩ (fun hHeld => ?_)
            clear hK K
            try simp only [Act.put, List.getElem_toArray, List.getElem_cons_succ, List.getElem_cons_zero, List.setIfInBounds_toArray, List.set_cons_zero, List.set_cons_succ]
            obtain ⟨hP_0c, hQ_0c, hR_0c, hA_0c, hD_0c, hB_0c⟩ := id hHeld
            refine wpAnyH_take (i := 3) (oi := _) (v := ?_) rfl (by kernel_rfl) (by kernel_rfl) (by kernel_rfl) (fun _ _ _ h => h) (Or.inl ⟨by rfl, ?_⟩) (by assumption) ?_
            (rotate_left); (focus (intro wv hSw; (obtain ⟨qP, qQ, qR, qA, qD, qB⟩ := hSw); obtain ⟨_, _, _, _, _⟩ := blk2 qP; obtain ⟨_, _, _, _, _⟩ := blk2 qQ; obtain ⟨_, _, _, _, _⟩ := blk2 qR; obtain ⟨_, _, _, _, _⟩ := blk2 qA; obtain ⟨_, _, _, _, _⟩ := blk2 qD; go_simp; (try with_reducible rfl)))
            try simp only [Act.put, List.getElem_toArray, List.getElem_cons_succ, List.getElem_cons_zero, List.setIfInBounds_toArray, List.set_cons_zero, List.set_cons_succ]
            refine wpAnyH_take (i := 4) (oi := _) (v := ?_) rfl (by kernel_rfl) (by kernel_rfl) (by kernel_rfl) (fun _ _ _ h => h) (Or.inl ⟨by rfl, ?_⟩) (by assumption) ?_
            (rotate_left); (focus (intro wv hSw; (obtain ⟨qP, qQ, qR, qA, qD, qB⟩ := hSw); obtain ⟨_, _, _, _, _⟩ := blk2 qP; obtain ⟨_, _, _, _, _⟩ := blk2 qQ; obtain ⟨_, _, _, _, _⟩ := blk2 qR; obtain ⟨_, _, _, _, _⟩ := blk2 qA; obtain ⟨_, _, _, _, _⟩ := blk2 qD; go_simp; (try with_reducible rfl)))
            try simp only [Act.put, List.getElem_toArray, List.getElem_cons_succ, List.getElem_cons_zero, List.setIfInBounds_toArray, List.set_cons_zero, List.set_cons_succ]
            refine wpAnyH_take (i := 6) (oi := _) (v := ?_) rfl (by kernel_rfl) (by kernel_rfl) (by kernel_rfl) (fun _ _ _ h => h) (Or.inl ⟨by rfl, ?_⟩) (by assumption) ?_
            (rotate_left); (focus (intro wv hSw; (obtain ⟨qP, qQ, qR, qA, qD, qB⟩ := hSw); obtain ⟨_, _, _, _, _⟩ := blk2 qP; obtain ⟨_, _, _, _, _⟩ := blk2 qQ; obtain ⟨_, _, _, _, _⟩ := blk2 qR; obtain ⟨_, _, _, _, _⟩ := blk2 qA; obtain ⟨_, _, _, _, _⟩ := blk2 qD; go_simp; (try with_reducible rfl)))
            try simp only [Act.put, List.getElem_toArray, List.getElem_cons_succ, List.getElem_cons_zero, List.setIfInBounds_toArray, List.set_cons_zero, List.set_cons_succ]
            refine wpAnyH_ready (rs := [5]) (by kernel_rfl) (by simp) ?_
            refine AllReadyH.cons (o := _) rfl (fun K hK => ?_) (AllReadyH.nil)
            go_simp
            (go_at_call 44; refine (sHalf_any _ _ _).mono ?_; rintro e x0cc ⟨rfl, hw_0cc⟩)
            refine hK.out _ _ ⟨blk_next hP_0c hw_0cc, blk_next hQ_0c hw_0cc, blk_next hR_0c hw_0cc, blk_next hA_0c hw_0cc, blk_next hD_0c hw_0cc, bel_next hB_0c hw_0cc⟩ (fun hHeld => ?_)
            clear hK K
            try simp only [Act.put, List.getElem_toArray, List.getElem_cons_succ, List.getElem_cons_zero, List.setIfInBounds_toArray, List.set_cons_zero, List.set_cons_succ]
            obtain ⟨hP_0cc, hQ_0cc, hR_0cc, hA_0cc, hD_0cc, hB_0cc⟩ := id hHeld
            refine wpAnyH_ready (rs := [7]) (by kernel_rfl) (by simp) ?_
            refine AllReadyH.cons (o := _) rfl (fun K hK => ?_) (AllReadyH.nil)
            go_simp
            (go_at_call 44; refine (sHalf_any _ _ _).mono ?_; rintro e x0ccc ⟨rfl, hw_0ccc⟩)
            refine hK.out _ _ ⟨blk_next hP_0cc hw_0ccc, blk_next hQ_0cc hw_0ccc, blk_next hR_0cc hw_0ccc, blk_next hA_0cc hw_0ccc, blk_next hD_0cc hw_0ccc, bel_next hB_0cc hw_0ccc⟩ (fun hHeld => ?_)
            clear hK K
            try simp only [Act.put, List.getElem_toArray, List.getElem_cons_succ, List.getElem_cons_zero, List.setIfInBounds_toArray, List.set_cons_zero, List.set_cons_succ]
            obtain ⟨hP_0ccc, hQ_0ccc, hR_0ccc, hA_0ccc, hD_0ccc, hB_0ccc⟩ := id hHeld
            refine wpAnyH_take (i := 8) (oi := _) (v := ?_) rfl (by kernel_rfl) (by kernel_rfl) (by kernel_rfl) (fun _ _ _ h => h) (Or.inl ⟨by rfl, ?_⟩) (by assumption) ?_
            (rotate_left); (focus (intro wv hSw; (obtain ⟨qP, qQ, qR, qA, qD, qB⟩ := hSw); obtain ⟨_, _, _, _, _⟩ := blk2 qP; obtain ⟨_, _, _, _, _⟩ := blk2 qQ; obtain ⟨_, _, _, _, _⟩ := blk2 qR; obtain ⟨_, _, _, _, _⟩ := blk2 qA; obtain ⟨_, _, _, _, _⟩ := blk2 qD; go_simp; (try with_reducible rfl)))
            try simp only [Act.put, List.getElem_toArray, List.getElem_cons_succ, List.getElem_cons_zero, List.setIfInBounds_toArray, List.set_cons_zero, List.set_cons_succ]
            refine wpAnyH_take (i := 9) (oi := _) (v := ?_) rfl (by kernel_rfl) (by kernel_rfl) (by kernel_rfl) (fun _ _ _ h => h) (Or.inl ⟨by rfl, ?_⟩) (by assumption) ?_
            (rotate_left); (focus (intro wv hSw; (obtain ⟨qP, qQ, qR, qA, qD, qB⟩ := hSw); obtain ⟨_, _, _, _, _⟩ := blk2 qP; obtain ⟨_, _, _, _, _⟩ := blk2 qQ; obtain ⟨_, _, _, _, _⟩ := blk2 qR; obtain ⟨_, _, _, _, _⟩ := blk2 qA; obtain ⟨_, _, _, _, _⟩ := blk2 qD; go_simp; (try with_reducible rfl)))
            try simp only [Act.put, List.getElem_toArray, List.getElem_cons_succ, List.getElem_cons_zero, List.setIfInBounds_toArray, List.set_cons_zero, List.set_cons_succ]
            refine wpAnyH_take (i := 10) (oi := _) (v := ?_) rfl (by kernel_rfl) (by kernel_rfl) (by kernel_rfl) (fun _ _ _ h => h) (Or.inl ⟨by rfl, ?_⟩) (by assumption) ?_
            (rotate_left); (focus (intro wv hSw; (obtain ⟨qP, qQ, qR, qA, qD, qB⟩ := hSw); obtain ⟨_, _, _, _, _⟩ := blk2 qP; obtain ⟨_, _, _, _, _⟩ := blk2 qQ; obtain ⟨_, _, _, _, _⟩ := blk2 qR; obtain ⟨_, _, _, _, _⟩ := blk2 qA; obtain ⟨_, _, _, _, _⟩ := blk2 qD; go_simp; (try with_reducible rfl)))
            try simp only [Act.put, List.getElem_toArray, List.getElem_cons_succ, List.getElem_cons_zero, List.setIfInBounds_toArray, List.set_cons_zero, List.set_cons_succ]
            refine wpAnyH_take (i := 11) (oi := _) (v := ?_) rfl (by kernel_rfl) (by kernel_rfl) (by kernel_rfl) (fun _ _ _ h => h) (Or.inl ⟨by rfl, ?_⟩) (by assumption) ?_
            (rotate_left); (focus (intro wv hSw; (obtain ⟨qP, qQ, qR, qA, qD, qB⟩ := hSw); obtain ⟨_, _, _, _, _⟩ := blk2 qP; obtain ⟨_, _, _, _, _⟩ := blk2 qQ; obtain ⟨_, _, _, _, _⟩ := blk2 qR; obtain ⟨_, _, _, _, _⟩ := blk2 qA; obtain ⟨_, _, _, _, _⟩ := blk2 qD; go_simp; (try with_reducible rfl)))
            try simp only [Act.put, List.getElem_toArray, List.getElem_cons_succ, List.getElem_cons_zero, List.setIfInBounds_toArray, List.set_cons_zero, List.set_cons_succ]
            refine wpAnyH_take (i := 13) (oi := _) (v := ?_) rfl (by kernel_rfl) (by kernel_rfl) (by kernel_rfl) (fun _ _ _ h => h) (Or.inl ⟨by rfl, ?_⟩) (by assumption) ?_
            (rotate_left); (focus (intro wv hSw; (obtain ⟨qP, qQ, qR, qA, qD, qB⟩ := hSw); obtain ⟨_, _, _, _, _⟩ := blk2 qP; obtain ⟨_, _, _, _, _⟩ := blk2 qQ; obtain ⟨_, _, _, _, _⟩ := blk2 qR; obtain ⟨_, _, _, _, _⟩ := blk2 qA; obtain ⟨_, _, _, _, _⟩ := blk2 qD; go_simp; (try with_reducible rfl)))
            try simp only [Act.put, List.getElem_toArray, List.getElem_cons_succ, List.getElem_cons_zero, List.setIfInBounds_toArray, List.set_cons_zero, List.set_cons_succ]
            refine wpAnyH_ready (rs := [12]) (by kernel_rfl) (by simp) ?_
            refine AllReadyH.cons (o := _) rfl (fun K hK => ?_) (AllReadyH.nil)
            go_simp
            (go_at_call 44; refine (sHalf_any _ _ _).mono ?_; rintro e x0cccc ⟨rfl, hw_0cccc⟩)
            refine hK.out _ _ ⟨blk_next hP_0ccc hw_0cccc, blk_next hQ_0ccc hw_0cccc, blk_next hR_0ccc hw_0cccc, blk_next hA_0ccc hw_0cccc, blk_next hD_0ccc hw_0cccc, bel_next hB_0ccc hw_0cccc⟩ (fun hHeld => ?_)
            clear hK K
            try simp only [Act.put, List.getElem_toArray, List.getElem_cons_succ, List.getElem_cons_zero, List.setIfInBounds_toArray, List.set_cons_zero, List.set_cons_succ]
            obtain ⟨hP_0cccc, hQ_0cccc, hR_0cccc, hA_0cccc, hD_0cccc, hB_0cccc⟩ := id hHeld
            refine wpAnyH_ready (rs := [14]) (by kernel_rfl) (by simp) ?_
            refine AllReadyH.cons (o := _) rfl (fun K hK => ?_) (AllReadyH.nil)
            go_simp
            (go_at_call 44; refine (sHalf_any _ _ _).mono ?_; rintro e x0ccccc ⟨rfl, hw_0ccccc⟩)
            refine hK.out _ _ ⟨blk_next hP_0cccc hw_0ccccc, blk_next hQ_0cccc hw_0ccccc, blk_next hR_0cccc hw_0ccccc, blk_next hA_0cccc hw_0ccccc, blk_next hD_0cccc hw_0ccccc, bel_next hB_0cccc hw_0ccccc⟩ (fun hHeld => ?_)
            clear hK K
            try simp only [Act.put, List.getElem_toArray, List.getElem_cons_succ, List.getElem_cons_zero, List.setIfInBounds_toArray, List.set_cons_zero, List.set_cons_succ]
            obtain ⟨hP_0ccccc, hQ_0ccccc, hR_0ccccc, hA_0ccccc, hD_0ccccc, hB_0ccccc⟩ := id hHeld
            refine wpAnyH_take (i := 15) (oi := _) (v := ?_) rfl (by kernel_rfl) (by kernel_rfl) (by kernel_rfl) (fun _ _ _ h => h) (Or.inl ⟨by rfl, ?_⟩) (by assumption) ?_
            (rotate_left); (focus (intro wv hSw; (obtain ⟨qP, qQ, qR, qA, qD, qB⟩ := hSw); obtain ⟨_, _, _, _, _⟩ := blk2 qP; obtain ⟨_, _, _, _, _⟩ := blk2 qQ; obtain ⟨_, _, _, _, _⟩ := blk2 qR; obtain ⟨_, _, _, _, _⟩ := blk2 qA; obtain ⟨_, _, _, _, _⟩ := blk2 qD; go_simp; (try with_reducible rfl)))
            try simp only [Act.put, List.getElem_toArray, List.getElem_cons_succ, List.getElem_cons_zero, List.setIfInBounds_toArray, List.set_cons_zero, List.set_cons_succ]
            refine wpAnyH_take (i := 16) (oi := _) (v := ?_) rfl (by kernel_rfl) (by kernel_rfl) (by kernel_rfl) (fun _ _ _ h => h) (Or.inl ⟨by rfl, ?_⟩) (by assumption) ?_
            (rotate_left); (focus (intro wv hSw; (obtain ⟨qP, qQ, qR, qA, qD, qB⟩ := hSw); obtain ⟨_, _, _, _, _⟩ := blk2 qP; obtain ⟨_, _, _, _, _⟩ := blk2 qQ; obtain ⟨_, _, _, _, _⟩ := blk2 qR; obtain ⟨_, _, _, _, _⟩ := blk2 qA; obtain ⟨_, _, _, _, _⟩ := blk2 qD; go_simp; (try with_reducible rfl)))
            try simp only [Act.put, List.getElem_toArray, List.getElem_cons_succ, List.getElem_cons_zero, List.setIfInBounds_toArray, List.set_cons_zero, List.set_cons_succ]
            refine wpAnyH_take (i := 17) (oi := _) (v := undef) rfl (by kernel_rfl) (by kernel_rfl) (by kernel_rfl) (fun _ _ _ h => h) (Or.inr ⟨by kernel_rfl, rfl⟩) (by assumption) ?_
            try simp only [Act.put, List.getElem_toArray, List.getElem_cons_succ, List.getElem_cons_zero, List.setIfInBounds_toArray, List.set_cons_zero, List.set_cons_succ]
            refine wpAnyH_take (i := 18) (oi := _) (v := undef) rfl (by kernel_rfl) (by kernel_rfl) (by kernel_rfl) (fun _ _ _ h => h) (Or.inr ⟨by kernel_rfl, rfl⟩) (by assumption) ?_
            try simp only [Act.put, List.getElem_toArray, List.getElem_cons_succ, List.getElem_cons_zero, List.setIfInBounds_toArray, List.set_cons_zero, List.set_cons_succ]
            refine wpAnyH_take (i := 19) (oi := _) (v := undef) rfl (by kernel_rfl) (by kernel_rfl) (by kernel_rfl) (fun _ _ _ h => h) (Or.inr ⟨by kernel_rfl, rfl⟩) (by assumption) ?_
            try simp only [Act.put, List.getElem_toArray, List.getElem_cons_succ, List.getElem_cons_zero, List.setIfInBounds_toArray, List.set_cons_zero, List.set_cons_succ]
            refine wpAnyH_take (i := 20) (oi := _) (v := undef) rfl (by kernel_rfl) (by kernel_rfl) (by kernel_rfl) (fun _ _ _ h => h) (Or.inr ⟨by kernel_rfl, rfl⟩) (by assumption) ?_
            try simp only [Act.put, List.getElem_toArray, List.getElem_cons_succ, List.getElem_cons_zero, List.setIfInBounds_toArray, List.set_cons_zero, List.set_cons_succ]
            refine wpAnyH_take (i := 21) (oi := _) (v := ?_) rfl (by kernel_rfl) (by kernel_rfl) (by kernel_rfl) (fun _ _ _ h => h) (Or.inl ⟨by rfl, ?_⟩) (by assumption) ?_
            (rotate_left); (focus (intro wv hSw; (obtain ⟨qP, qQ, qR, qA, qD, qB⟩ := hSw); obtain ⟨_, _, _, _, _⟩ := blk2 qP; obtain ⟨_, _, _, _, _⟩ := blk2 qQ; obtain ⟨_, _, _, _, _⟩ := blk2 qR; obtain ⟨_, _, _, _, _⟩ := blk2 qA; obtain ⟨_, _, _, _, _⟩ := blk2 qD; go_simp; (try with_reducible rfl)))
            try simp only [Act.put, List.getElem_toArray, List.getElem_cons_succ, List.getElem_cons_zero, List.setIfInBounds_toArray, List.set_cons_zero, List.set_cons_succ]
            refine wpAnyH_take (i := 22) (oi := _) (v := ?_) rfl (by kernel_rfl) (by kernel_rfl) (by kernel_rfl) (fun _ _ _ h => h) (Or.inl ⟨by rfl, ?_⟩) (by assumption) ?_
            (rotate_left); (focus (intro wv hSw; (obtain ⟨qP, qQ, qR, qA, qD, qB⟩ := hSw); obtain ⟨_, _, _, _, _⟩ := blk2 qP; obtain ⟨_, _, _, _, _⟩ := blk2 qQ; obtain ⟨_, _, _, _, _⟩ := blk2 qR; obtain ⟨_, _, _, _, _⟩ := blk2 qA; obtain ⟨_, _, _, _, _⟩ := blk2 qD; go_simp; (try with_reducible rfl)))
            try simp only [Act.put, List.getElem_toArray, List.getElem_cons_succ, List.getElem_cons_zero, List.setIfInBounds_toArray, List.set_cons_zero, List.set_cons_succ]
            refine wpAnyH_take (i := 23) (oi := _) (v := ?_) rfl (by kernel_rfl) (by kernel_rfl) (by kernel_rfl) (fun _ _ _ h => h) (Or.inl ⟨by rfl, ?_⟩) (by assumption) ?_
            (rotate_left); (focus (intro wv hSw; (obtain ⟨qP, qQ, qR, qA, qD, qB⟩ := hSw); obtain ⟨_, _, _, _, _⟩ := blk2 qP; obtain ⟨_, _, _, _, _⟩ := blk2 qQ; obtain ⟨_, _, _, _, _⟩ := blk2 qR; obtain ⟨_, _, _, _, _⟩ := blk2 qA; obtain ⟨_, _, _, _, _⟩ := blk2 qD; go_simp; (try with_reducible rfl)))
            try simp only [Act.put, List.getElem_toArray, List.getElem_cons_succ, List.getElem_cons_zero, List.setIfInBounds_toArray, List.set_cons_zero, List.set_cons_succ]
            refine wpAnyH_done (by kernel_rfl) ?_ _
            go_wp2_with fail
            go_ret
            exact ⟨ret_bool (by rw [HR2.out]; unfold btB befB Bef; have := E1.out; rw [HC.out, Bool.eq_iff_iff]; simp; omega), hB_0ccccc⟩
        · have HC := Lib.hid hs
          refine wp_region_held_drew (S := (fun w' => w'.heap[w.heap.size]? = some (.cells #[.int .i64 u1, .int .i64 u2] 24) ∧ w'.heap[w.heap.size + 1]? = some (.cells #[.int .i64 f1, .int .i64 f2] 24) ∧ w'.heap[w.heap.size + 1 + 1]? = some (.cells #[.int .i64 t1, .int .i64 t2] 24) ∧ w'.heap[C]? = some (.cells #[.int .i64 (tE u1 u2 f1 (-f2)), .int .i64 (tN u1 u2 f1 (-f2))] 24) ∧ w'.heap[D]? = some (.cells #[.int .i64 (tE t1 t2 f1 (-f2)), .int .i64 (tN t1 t2 f1 (-f2))] 24) ∧ Below w.heap.size w w')) (by kernel_rfl) ⟨hP1, hQ1, hR1, hA1, hD1, hB1.drew⟩ (fun hHeld => ?_)
          obtain ⟨hP_0, hQ_0, hR_0, hA_0, hD_0, hB_0⟩ := id hHeld
          refine wpAnyH_take (i := 0) (oi := _) (v := ?_) rfl (by kernel_rfl) (by kernel_rfl) (by kernel_rfl) (fun _ _ _ h => h) (Or.inl ⟨by rfl, ?_⟩) (by assumption) ?_
          (rotate_left); (focus (intro wv hSw; (obtain ⟨qP, qQ, qR, qA, qD, qB⟩ := hSw); obtain ⟨_, _, _, _, _⟩ := blk2 qP; obtain ⟨_, _, _, _, _⟩ := blk2 qQ; obtain ⟨_, _, _, _, _⟩ := blk2 qR; obtain ⟨_, _, _, _, _⟩ := blk2 qA; obtain ⟨_, _, _, _, _⟩ := blk2 qD; go_simp; (try with_reducible rfl)))
          try simp only [Act.put, List.getElem_toArray, List.getElem_cons_succ, List.getElem_cons_zero, List.setIfInBounds_toArray, List.set_cons_zero, List.set_cons_succ]
          refine wpAnyH_take (i := 1) (oi := _) (v := ?_) rfl (by kernel_rfl) (by kernel_rfl) (by kernel_rfl) (fun _ _ _ h => h) (Or.inl ⟨by rfl, ?_⟩) (by assumption) ?_
          (rotate_left); (focus (intro wv hSw; (obtain ⟨qP, qQ, qR, qA, qD, qB⟩ := hSw); obtain ⟨_, _, _, _, _⟩ := blk2 qP; obtain ⟨_, _, _, _, _⟩ := blk2 qQ; obtain ⟨_, _, _, _, _⟩ := blk2 qR; obtain ⟨_, _, _, _, _⟩ := blk2 qA; obtain ⟨_, _, _, _, _⟩ := blk2 qD; go_simp; (try with_reducible rfl)))
          try simp only [Act.put, List.getElem_toArray, List.getElem_cons_succ, List.getElem_cons_zero, List.setIfInBounds_toArray, List.set_cons_zero, List.set_cons_succ]
          refine wpAnyH_ready (rs := [2]) (by kernel_rfl) (by simp) ?_
          refine AllReadyH.cons (o := _) rfl (fun K hK => ?_) (AllReadyH.nil)
          go_simp
          (go_at_call 18; refine (sSW_any _ _ _ _ _).mono ?_; rintro e x0c ⟨rfl, hw_0c⟩)
          refine hK.out _ _ ⟨blk_next hP_0 hw_0c, blk_next hQ_0 hw_0c, blk_next hR_0 hw_0c, blk_next hA_0 hw_0c, blk_next hD_0 hw_0c, bel_next hB_0 hw_0c⟩ (fun hHeld => ?_)
          clear hK K
          try simp only [Act.put, List.getElem_toArray, List.getElem_cons_succ, List.getElem_cons_zero, List.setIfInBounds_toArray, List.set_cons_zero, List.set_cons_succ]
          obtain ⟨hP_0c, hQ_0c, hR_0c, hA_0c, hD_0c, hB_0c⟩ := id hHeld
          refine wpAnyH_take (i := 3) (oi := _) (v := ?_) rfl (by kernel_rfl) (by kernel_rfl) (by kernel_rfl) (fun _ _ _ h => h) (Or.inl ⟨by rfl, ?_⟩) (by assumption) ?_
          (rotate_left); (focus (intro wv hSw; (obtain ⟨qP, qQ, qR, qA, qD, qB⟩ := hSw); obtain ⟨_, _, _, _, _⟩ := blk2 qP; obtain ⟨_, _, _, _, _⟩ := blk2 qQ; obtain ⟨_, _, _, _, _⟩ := blk2 qR; obtain ⟨_, _, _, _, _⟩ := blk2 qA; obtain ⟨_, _, _, _, _⟩ := blk2 qD; go_simp; (try with_reducible rfl)))
          try simp only [Act.put, List.getElem_toArray, List.getElem_cons_succ, List.getElem_cons_zero, List.setIfInBounds_toArray, List.set_cons_zero, List.set_cons_succ]
          refine wpAnyH_take (i := 4) (oi := _) (v := undef) rfl (by kernel_rfl) (by kernel_rfl) (by kernel_rfl) (fun _ _ _ h => h) (Or.inr ⟨by kernel_rfl, rfl⟩) (by assumption) ?_
          try simp only [Act.put, List.getElem_toArray, List.getElem_cons_succ, List.getElem_cons_zero, List.setIfInBounds_toArray, List.set_cons_zero, List.set_cons_succ]
          refine wpAnyH_take (i := 6) (oi := _) (v := undef) rfl (by kernel_rfl) (by kernel_rfl) (by kernel_rfl) (fun _ _ _ h => h) (Or.inr ⟨by kernel_rfl, rfl⟩) (by assumption) ?_
          try simp only [Act.put, List.getElem_toArray, List.getElem_cons_succ, List.getElem_cons_zero, List.setIfInBounds_toArray, List.set_cons_zero, List.set_cons_succ]
          refine wpAnyH_take (i := 5) (oi := _) (v := undef) rfl (by kernel_rfl) (by kernel_rfl) (by kernel_rfl) (fun _ _ _ h => h) (Or.inr ⟨by kernel_rfl, rfl⟩) (by assumption) ?_
          try simp only [Act.put, List.getElem_toArray, List.getElem_cons_succ, List.getElem_cons_zero, List.setIfInBounds_toArray, List.set_cons_zero, List.set_cons_succ]
          refine wpAnyH_take (i := 7) (oi := _) (v := undef) rfl (by kernel_rfl) (by kernel_rfl) (by kernel_rfl) (fun _ _ _ h => h) (Or.inr ⟨by kernel_rfl, rfl⟩) (by assumption) ?_
          try simp only [Act.put, List.getElem_toArray, List.getElem_cons_succ, List.getElem_cons_zero, List.setIfInBounds_toArray, List.set_cons_zero, List.set_cons_succ]
          refine wpAnyH_take (i := 8) (oi := _) (v := undef) rfl (by kernel_rfl) (by kernel_rfl) (by kernel_rfl) (fun _ _ _ h => h) (Or.inr ⟨by kernel_rfl, rfl⟩) (by assumption) ?_
          try simp only [Act.put, List.getElem_toArray, List.getElem_cons_succ, List.getElem_cons_zero, List.setIfInBounds_toArray, List.set_cons_zero, List.set_cons_succ]
          refine wpAnyH_take (i := 9) (oi := _) (v := ?_) rfl (by kernel_rfl) (by kernel_rfl) (by kernel_rfl) (fun _ _ _ h => h) (Or.inl ⟨by rfl, ?_⟩) (by assumption) ?_
          (rotate_left); (focus (intro wv hSw; (obtain ⟨qP, qQ, qR, qA, qD, qB⟩ := hSw); obtain ⟨_, _, _, _, _⟩ := blk2 qP; obtain ⟨_, _, _, _, _⟩ := blk2 qQ; obtain ⟨_, _, _, _, _⟩ := blk2 qR; obtain ⟨_, _, _, _, _⟩ := blk2 qA; obtain ⟨_, _, _, _, _⟩ := blk2 qD; go_simp; (try with_reducible rfl)))
          try simp only [Act.put, List.getElem_toArray, List.getElem_cons_succ, List.getElem_cons_zero, List.setIfInBounds_toArray, List.set_cons_zero, List.set_cons_succ]
          refine wpAnyH_take (i := 10) (oi := _) (v := ?_) rfl (by kernel_rfl) (by kernel_rfl) (by kernel_rfl) (fun _ _ _ h => h) (Or.inl ⟨by rfl, ?_⟩) (by assumption) ?_
          (rotate_left); (focus (intro wv hSw; (obtain ⟨qP, qQ, qR, qA, qD, qB⟩ := hSw); obtain ⟨_, _, _, _, _⟩ := blk2 qP; obtain ⟨_, _, _, _, _⟩ := blk2 qQ; obtain ⟨_, _, _, _, _⟩ := blk2 qR; obtain ⟨_, _, _, _, _⟩ := blk2 qA; obtain ⟨_, _, _, _, _⟩ := blk2 qD; go_simp; (try with_reducible rfl)))
          try simp only [Act.put, List.getElem_toArray, List.getElem_cons_succ, List.getElem_cons_zero, List.setIfInBounds_toArray, List.set_cons_zero, List.set_cons_succ]
          refine wpAnyH_take (i := 11) (oi := _) (v := undef) rfl (by kernel_rfl) (by kernel_rfl) (by kernel_rfl) (fun _ _ _ h => h) (Or.inr ⟨by kernel_rfl, rfl⟩) (by assumption) ?_
          try simp only [Act.put, List.getElem_toArray, List.getElem_cons_succ, List.getElem_cons_zero, List.setIfInBounds_toArray, List.set_cons_zero, List.set_cons_succ]
          refine wpAnyH_take (i := 13) (oi := _) (v := undef) rfl (by kernel_rfl) (by kernel_rfl) (by kernel_rfl) (fun _ _ _ h => h) (Or.inr ⟨by kernel_rfl, rfl⟩) (by assumption) ?_
          try simp only [Act.put, List.getElem_toArray, List.getElem_cons_succ, List.getElem_cons_zero, List.setIfInBounds_toArray, List.set_cons_zero, List.set_cons_succ]
          refine wpAnyH_take (i := 12) (oi := _) (v := undef) rfl (by kernel_rfl) (by kernel_rfl) (by kernel_rfl) (fun _ _ _ h => h) (Or.inr ⟨by kernel_rfl, rfl⟩) (by assumption) ?_
          try simp only [Act.put, List.getElem_toArray, List.getElem_cons_succ, List.getElem_cons_zero, List.setIfInBounds_toArray, List.set_cons_zero, List.set_cons_succ]
          refine wpAnyH_take (i := 14) (oi := _) (v := undef) rfl (by kernel_rfl) (by kernel_rfl) (by kernel_rfl) (fun _ _ _ h => h) (Or.inr ⟨by kernel_rfl, rfl⟩) (by assumption) ?_
          try simp only [Act.put, List.getElem_toArray, List.getElem_cons_succ, List.getElem_cons_zero, List.setIfInBounds_toArray, List.set_cons_zero, List.set_cons_succ]
          refine wpAnyH_take (i := 15) (oi := _) (v := undef) rfl (by kernel_rfl) (by kernel_rfl) (by kernel_rfl) (fun _ _ _ h => h) (Or.inr ⟨by kernel_rfl, rfl⟩) (by assumption) ?_
          try simp only [Act.put, List.getElem_toArray, List.getElem_cons_succ, List.getElem_cons_zero, List.setIfInBounds_toArray, List.set_cons_zero, List.set_cons_succ]
          refine wpAnyH_take (i := 16) (oi := _) (v := undef) rfl (by kernel_rfl) (by kernel_rfl) (by kernel_rfl) (fun _ _ _ h => h) (Or.inr ⟨by kernel_rfl, rfl⟩) (by assumption) ?_
          try simp only [Act.put, List.getElem_toArray, List.getElem_cons_succ, List.getElem_cons_zero, List.setIfInBounds_toArray, List.set_cons_zero, List.set_cons_succ]
          refine wpAnyH_take (i := 17) (oi := _) (v := undef) rfl (by kernel_rfl) (by kernel_rfl) (by kernel_rfl) (fun _ _ _ h => h) (Or.inr ⟨by kernel_rfl, rfl⟩) (by assumption) ?_
          try simp only [Act.put, List.getElem_toArray, List.getElem_cons_succ, List.getElem_cons_zero, List.setIfInBounds_toArray, List.set_cons_zero, List.set_cons_succ]
          refine wpAnyH_take (i := 18) (oi := _) (v := undef) rfl (by kernel_rfl) (by kernel_rfl) (by kernel_rfl) (fun _ _ _ h => h) (Or.inr ⟨by kernel_rfl, rfl⟩) (by assumption) ?_
          try simp only [Act.put, List.getElem_toArray, List.getElem_cons_succ, List.getElem_cons_zero, List.setIfInBounds_toArray, List.set_cons_zero, List.set_cons_succ]
          refine wpAnyH_take (i := 19) (oi := _) (v := undef) rfl (by kernel_rfl) (by kernel_rfl) (by kernel_rfl) (fun _ _ _ h => h) (Or.inr ⟨by kernel_rfl, rfl⟩) (by assumption) ?_
          try simp only [Act.put, List.getElem_toArray, List.getElem_cons_succ, List.getElem_cons_zero, List.setIfInBounds_toArray, List.set_cons_zero, List.set_cons_succ]
          refine wpAnyH_take (i := 20) (oi := _) (v := undef) rfl (by kernel_rfl) (by kernel_rfl) (by kernel_rfl) (fun _ _ _ h => h) (Or.inr ⟨by kernel_rfl, rfl⟩) (by assumption) ?_
          try simp only [Act.put, List.getElem_toArray, List.getElem_cons_succ, List.getElem_cons_zero, List.setIfInBounds_toArray, List.set_cons_zero, List.set_cons_succ]
          refine wpAnyH_take (i := 21) (oi := _) (v := undef) rfl (by kernel_rfl) (by kernel_rfl) (by kernel_rfl) (fun _ _ _ h => h) (Or.inr ⟨by kernel_rfl, rfl⟩) (by assumption) ?_
          try simp only [Act.put, List.getElem_toArray, List.getElem_cons_succ, List.getElem_cons_zero, List.setIfInBounds_toArray, List.set_cons_zero, List.set_cons_succ]
          refine wpAnyH_take (i := 22) (oi := _) (v := ?_) rfl (by kernel_rfl) (by kernel_rfl) (by kernel_rfl) (fun _ _ _ h => h) (Or.inl ⟨by rfl, ?_⟩) (by assumption) ?_
          (rotate_left); (focus (intro wv hSw; (obtain ⟨qP, qQ, qR, qA, qD, qB⟩ := hSw); obtain ⟨_, _, _, _, _⟩ := blk2 qP; obtain ⟨_, _, _, _, _⟩ := blk2 qQ; obtain ⟨_, _, _, _, _⟩ := blk2 qR; obtain ⟨_, _, _, _, _⟩ := blk2 qA; obtain ⟨_, _, _, _, _⟩ := blk2 qD; go_simp; (try with_reducible rfl)))
          try simp only [Act.put, List.getElem_toArray, List.getElem_cons_succ, List.getElem_cons_zero, List.setIfInBounds_toArray, List.set_cons_zero, List.set_cons_succ]
          refine wpAnyH_take (i := 23) (oi := _) (v := ?_) rfl (by kernel_rfl) (by kernel_rfl) (by kernel_rfl) (fun _ _ _ h => h) (Or.inl ⟨by rfl, ?_⟩) (by assumption) ?_
          (rotate_left); (focus (intro wv hSw; (obtain ⟨qP, qQ, qR, qA, qD, qB⟩ := hSw); obtain ⟨_, _, _, _, _⟩ := blk2 qP; obtain ⟨_, _, _, _, _⟩ := blk2 qQ; obtain ⟨_, _, _, _, _⟩ := blk2 qR; obtain ⟨_, _, _, _, _⟩ := blk2 qA; obtain ⟨_, _, _, _, _⟩ := blk2 qD; go_simp; (try with_reducible rfl)))
          try simp only [Act.put, List.getElem_toArray, List.getElem_cons_succ, List.getElem_cons_zero, List.setIfInBounds_toArray, List.set_cons_zero, List.set_cons_succ]
          refine wpAnyH_done (by kernel_rfl) ?_ _
          go_wp2_with fail
          go_ret
          exact ⟨ret_bool (by rw [HR2.out]; unfold btB; rw [HC.out]; rfl), hB_0c⟩
end Go.Proofs.Ytbegajmdadkknab
