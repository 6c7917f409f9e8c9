/- Va: texts joined. -/
import Derived.Test.YtbklgpghonigjaaGreatMQD
namespace Go.Proofs.YtbklgpghonigjaaGreat
open Go Go.ChangeShapes Go.WideShapes Go.ChangeAt Go.RowKit
set_option linter.unusedSimpArgs false
set_option linter.unusedVariables false
theorem FrOk.mk' {a b : Int} (h0 : -100 ≤ a) (h1 : a ≤ 100) (h2 : 1 ≤ b) (h3 : b ≤ 20) : FrOk (a, b) := ⟨⟨h0, h1⟩, h2, h3⟩
theorem withinH_any (ru h : Int) (w : World) (r0 : 1 ≤ ru) (r1 : ru ≤ 20) (h0 : 1 ≤ h) (h1 : h ≤ 30) :
    Calls Tryz.prog 114 #[.int .i64 0, .int .i64 ru, .int .i64 0, .int .i64 h] w fun E w' => E = .returned (.agg #[.int .i64 0, .int .i64 ru, .int .i64 h, .int .i64 ru]) ∧ Below w.heap.size w w' := by
  have k := within_any 0 ru 0 h w (by omega) (by omega) (by omega) (by omega) (by omega) (by omega) (by omega) (by omega)
  have e1 : sN 0 ru 0 h = 0 := by unfold sN; rw [if_pos (by omega)]; omega
  have e2 : eN 0 ru 0 h = h := by unfold eN; rw [if_pos (by omega)]; omega
  have e3 : dN ru = ru := by unfold dN; rw [if_pos (by omega)]
  rw [e1, e2, e3] at k; exact k
set_option maxRecDepth 100000 in
set_option maxHeartbeats 4000000 in
theorem iSh_any (pe pn a b c d h re rn ru : Int) (w : World) :
    Calls Tryz.prog 61 #[.agg #[.int .i64 pe, .int .i64 pn], .agg #[.int .i64 a, .int .i64 b, .int .i64 c, .int .i64 d, .int .i64 h], .agg #[.int .i64 re, .int .i64 rn, .int .i64 ru]] w fun E w' => E = .returned (.bool (shB pe pn a b c d h re rn ru)) ∧ Below w.heap.size w w' := by
  cases hp : plB pe pn
  · rw [shB_f1 hp]
    have HP := Lib.hid hp
    clear hp
    go_enter Tryz.func61, Tryz.ntmps61
    go_wp2_with fail
    refine (iPV_is _ HP.out).mono ?_; rintro E w1 ⟨rfl, hw1⟩
    obtain ⟨hP1, hQ1, hR1, hB1⟩ := ownb3 hw1
    obtain ⟨cP1_0, cP1_1, fP1_0, fP1_1, zP1⟩ := blk2 hP1
    obtain ⟨cQ1_0, cQ1_1, cQ1_2, cQ1_3, cQ1_4, fQ1_0, fQ1_1, fQ1_2, fQ1_3, fQ1_4, zQ1⟩ := blk5 hQ1
    obtain ⟨cR1_0, cR1_1, cR1_2, fR1_0, fR1_1, fR1_2, zR1⟩ := blk3 hR1
    go_wp2
    go_ret
    exact ⟨rfl, hB1⟩
  · skip
    cases hb : blB a b c d h
    · rw [shB_f2 hb]
      have HP := Lib.hid hp
      have HB := Lib.hid hb
      clear hp hb
      go_enter Tryz.func61, Tryz.ntmps61
      go_wp2_with fail
      refine (iPV_is _ HP.out).mono ?_; rintro E w1 ⟨rfl, hw1⟩
      obtain ⟨hP1, hQ1, hR1, hB1⟩ := ownb3 hw1
      obtain ⟨cP1_0, cP1_1, fP1_0, fP1_1, zP1⟩ := blk2 hP1
      obtain ⟨cQ1_0, cQ1_1, cQ1_2, cQ1_3, cQ1_4, fQ1_0, fQ1_1, fQ1_2, fQ1_3, fQ1_4, zQ1⟩ := blk5 hQ1
      obtain ⟨cR1_0, cR1_1, cR1_2, fR1_0, fR1_1, fR1_2, zR1⟩ := blk3 hR1
      go_wp2_with fail
      refine (iBV_is _ HB.out).mono ?_; rintro E w2 ⟨rfl, hw2⟩
      have hP2 := blk_next hP1 hw2
      have hQ2 := blk_next hQ1 hw2
      have hR2 := blk_next hR1 hw2
      have hB2 := bel_next hB1 hw2
      obtain ⟨cP2_0, cP2_1, fP2_0, fP2_1, zP2⟩ := blk2 hP2
      obtain ⟨cQ2_0, cQ2_1, cQ2_2, cQ2_3, cQ2_4, fQ2_0, fQ2_1, fQ2_2, fQ2_3, fQ2_4, zQ2⟩ := blk5 hQ2
      obtain ⟨cR2_0, cR2_1, cR2_2, fR2_0, fR2_1, fR2_2, zR2⟩ := blk3 hR2
      go_wp2
      go_ret
      exact ⟨rfl, hB2⟩
    · skip
      cases hr : ryB re rn ru
      · rw [shB_f3 hr]
        have HP := Lib.hid hp
        have HB := Lib.hid hb
        have HR := Lib.hid hr
        clear hp hb hr
        go_enter Tryz.func61, Tryz.ntmps61
        go_wp2_with fail
        refine (iPV_is _ HP.out).mono ?_; rintro E w1 ⟨rfl, hw1⟩
        obtain ⟨hP1, hQ1, hR1, hB1⟩ := ownb3 hw1
        obtain ⟨cP1_0, cP1_1, fP1_0, fP1_1, zP1⟩ := blk2 hP1
        obtain ⟨cQ1_0, cQ1_1, cQ1_2, cQ1_3, cQ1_4, fQ1_0, fQ1_1, fQ1_2, fQ1_3, fQ1_4, zQ1⟩ := blk5 hQ1
        obtain ⟨cR1_0, cR1_1, cR1_2, fR1_0, fR1_1, fR1_2, zR1⟩ := blk3 hR1
        go_wp2_with fail
        refine (iBV_is _ HB.out).mono ?_; rintro E w2 ⟨rfl, hw2⟩
        have hP2 := blk_next hP1 hw2
        have hQ2 := blk_next hQ1 hw2
        have hR2 := blk_next hR1 hw2
        have hB2 := bel_next hB1 hw2
        obtain ⟨cP2_0, cP2_1, fP2_0, fP2_1, zP2⟩ := blk2 hP2
        obtain ⟨cQ2_0, cQ2_1, cQ2_2, cQ2_3, cQ2_4, fQ2_0, fQ2_1, fQ2_2, fQ2_3, fQ2_4, zQ2⟩ := blk5 hQ2
        obtain ⟨cR2_0, cR2_1, cR2_2, fR2_0, fR2_1, fR2_2, zR2⟩ := blk3 hR2
        go_wp2_with fail
        refine (iRV_is _ HR.out).mono ?_; rintro E w3 ⟨rfl, hw3⟩
        have hP3 := blk_next hP2 hw3
        have hQ3 := blk_next hQ2 hw3
        have hR3 := blk_next hR2 hw3
        have hB3 := bel_next hB2 hw3
        obtain ⟨cP3_0, cP3_1, fP3_0, fP3_1, zP3⟩ := blk2 hP3
        obtain ⟨cQ3_0, cQ3_1, cQ3_2, cQ3_3, cQ3_4, fQ3_0, fQ3_1, fQ3_2, fQ3_3, fQ3_4, zQ3⟩ := blk5 hQ3
        obtain ⟨cR3_0, cR3_1, cR3_2, fR3_0, fR3_1, fR3_2, zR3⟩ := blk3 hR3
        go_wp2
        go_ret
        exact ⟨rfl, hB3⟩
      · rw [shB_t hp hb hr]
        have b1 := plB_iff.1 hp
        have b2 := blB_iff.1 hb
        have b3 := ryB_iff.1 hr
        obtain ⟨p0, p1, p2, p3⟩ := b1
        obtain ⟨q0, q1, q2, q3, q4, q5, q6, q7⟩ := b2
        obtain ⟨r0, r1, r2, r3, r4, r5⟩ := b3
        obtain ⟨s10, s11⟩ := sN_bd (p := pe) (r := re) (lo := a) (hi := b) (by omega) (by omega) (by omega) (by omega) (by omega) (by omega)
        obtain ⟨s20, s21⟩ := sN_bd (p := pn) (r := rn) (lo := c) (hi := d) (by omega) (by omega) (by omega) (by omega) (by omega) (by omega)
        obtain ⟨e10, e11⟩ := eN_bd (p := pe) (r := re) (lo := a) (hi := b) (by omega) (by omega) (by omega) (by omega) (by omega) (by omega)
        obtain ⟨e20, e21⟩ := eN_bd (p := pn) (r := rn) (lo := c) (hi := d) (by omega) (by omega) (by omega) (by omega) (by omega) (by omega)
        have d10 := dN_pos re
        have d11 := dN_le r0 r1
        have d20 := dN_pos rn
        have d21 := dN_le r2 r3
        have F1 := FrOk.mk' (a := sN pe re a b) (b := dN re) s10 s11 (by omega) d11
        have F2 := FrOk.mk' (a := sN pn rn c d) (b := dN rn) s20 s21 (by omega) d21
        have F3 := FrOk.mk' (a := 0) (b := ru) (by omega) (by omega) r4 r5
        have G1 := FrOk.mk' (a := eN pe re a b) (b := dN re) e10 e11 (by omega) d11
        have G2 := FrOk.mk' (a := eN pn rn c d) (b := dN rn) e20 e21 (by omega) d21
        have G3 := FrOk.mk' (a := h) (b := ru) (by omega) (by omega) r4 r5
        have hres : (!decide ((minF (minF (eN pe re a b, dN re) (eN pn rn c d, dN rn)) (h, ru)).1 * (maxF (maxF (sN pe re a b, dN re) (sN pn rn c d, dN rn)) (0, ru)).2 < (maxF (maxF (sN pe re a b, dN re) (sN pn rn c d, dN rn)) (0, ru)).1 * (minF (minF (eN pe re a b, dN re) (eN pn rn c d, dN rn)) (h, ru)).2)) = decide (PrM pe pn a b c d h re rn ru) := by
          have k := prs_iff (s1 := sN pe re a b) (e1 := eN pe re a b) (d1 := dN re) (s2 := sN pn rn c d) (e2 := eN pn rn c d) (d2 := dN rn) (s3 := 0) (e3 := h) (d3 := ru) d10 d20 (by omega)
          rw [Bool.eq_iff_iff, decide_eq_true_iff]
          unfold PrM
          rw [← k]
          unfold Le topF lowF
          simp only [Bool.not_eq_true', decide_eq_false_iff_not, Int.not_lt]
        rw [← hres]
        have FS := (F1.max F2).max F3
        have FE := (G1.min G2).min G3
        clear hres
        have HP := Lib.hid hp
        have HB := Lib.hid hb
        have HR := Lib.hid hr
        clear hp hb hr
        go_enter Tryz.func61, Tryz.ntmps61
        go_wp2_with fail
        refine (iPV_is _ HP.out).mono ?_; rintro E w1 ⟨rfl, hw1⟩
        obtain ⟨hP1, hQ1, hR1, hB1⟩ := ownb3 hw1
        obtain ⟨cP1_0, cP1_1, fP1_0, fP1_1, zP1⟩ := blk2 hP1
        obtain ⟨cQ1_0, cQ1_1, cQ1_2, cQ1_3, cQ1_4, fQ1_0, fQ1_1, fQ1_2, fQ1_3, fQ1_4, zQ1⟩ := blk5 hQ1
        obtain ⟨cR1_0, cR1_1, cR1_2, fR1_0, fR1_1, fR1_2, zR1⟩ := blk3 hR1
        go_wp2_with fail
        refine (iBV_is _ HB.out).mono ?_; rintro E w2 ⟨rfl, hw2⟩
        have hP2 := blk_next hP1 hw2
        have hQ2 := blk_next hQ1 hw2
        have hR2 := blk_next hR1 hw2
        have hB2 := bel_next hB1 hw2
        obtain ⟨cP2_0, cP2_1, fP2_0, fP2_1, zP2⟩ := blk2 hP2
        obtain ⟨cQ2_0, cQ2_1, cQ2_2, cQ2_3, cQ2_4, fQ2_0, fQ2_1, fQ2_2, fQ2_3, fQ2_4, zQ2⟩ := blk5 hQ2
        obtain ⟨cR2_0, cR2_1, cR2_2, fR2_0, fR2_1, fR2_2, zR2⟩ := blk3 hR2
        go_wp2_with fail
        refine (iRV_is _ HR.out).mono ?_; rintro E w3 ⟨rfl, hw3⟩
        have hP3 := blk_next hP2 hw3
        have hQ3 := blk_next hQ2 hw3
        have hR3 := blk_next hR2 hw3
        have hB3 := bel_next hB2 hw3
        obtain ⟨cP3_0, cP3_1, fP3_0, fP3_1, zP3⟩ := blk2 hP3
        obtain ⟨cQ3_0, cQ3_1, cQ3_2, cQ3_3, cQ3_4, fQ3_0, fQ3_1, fQ3_2, fQ3_3, fQ3_4, zQ3⟩ := blk5 hQ3
        obtain ⟨cR3_0, cR3_1, cR3_2, fR3_0, fR3_1, fR3_2, zR3⟩ := blk3 hR3
        go_wp2_with fail
        refine wp_region_held_drew (S := (fun w' => w'.heap[w.heap.size]? = some (.cells #[.int .i64 pe, .int .i64 pn] 25) ∧ w'.heap[w.heap.size + 1]? = some (.cells #[.int .i64 a, .int .i64 b, .int .i64 c, .int .i64 d, .int .i64 h] 40) ∧ w'.heap[w.heap.size + 1 + 1]? = some (.cells #[.int .i64 re, .int .i64 rn, .int .i64 ru] 43) ∧ Below w.heap.size w w')) (by kernel_rfl) ⟨hP3, hQ3, hR3, hB3.drew⟩ (fun hHeld => ?_)
        obtain ⟨hP_0, hQ_0, hR_0, hB_0⟩ := id hHeld
        refine wpAnyH_take (i := 0) (oi := _) (v := ?_) rfl (by kernel_rfl) (by kernel_rfl) (by kernel_rfl) (fun _ _ _ h => h) (Or.inl ⟨by rfl, ?_⟩) (by assumption) ?_
        (rotate_left); (focus (intro wv hSw; (obtain ⟨qP, qQ, qR, qB⟩ := hSw); obtain ⟨_, _, _, _, _⟩ := blk2 qP; obtain ⟨_, _, _, _, _, _, _, _, _, _, _⟩ := blk5 qQ; obtain ⟨_, _, _, _, _, _, _⟩ := blk3 qR; go_simp; (try with_reducible rfl)))
        try simp only [Act.put, List.getElem_toArray, List.getElem_cons_succ, List.getElem_cons_zero, List.setIfInBounds_toArray, List.set_cons_zero, List.set_cons_succ]
        refine wpAnyH_take (i := 1) (oi := _) (v := ?_) rfl (by kernel_rfl) (by kernel_rfl) (by kernel_rfl) (fun _ _ _ h => h) (Or.inl ⟨by rfl, ?_⟩) (by assumption) ?_
        (rotate_left); (focus (intro wv hSw; (obtain ⟨qP, qQ, qR, qB⟩ := hSw); obtain ⟨_, _, _, _, _⟩ := blk2 qP; obtain ⟨_, _, _, _, _, _, _, _, _, _, _⟩ := blk5 qQ; obtain ⟨_, _, _, _, _, _, _⟩ := blk3 qR; go_simp; (try with_reducible rfl)))
        try simp only [Act.put, List.getElem_toArray, List.getElem_cons_succ, List.getElem_cons_zero, List.setIfInBounds_toArray, List.set_cons_zero, List.set_cons_succ]
        refine wpAnyH_take (i := 2) (oi := _) (v := ?_) rfl (by kernel_rfl) (by kernel_rfl) (by kernel_rfl) (fun _ _ _ h => h) (Or.inl ⟨by rfl, ?_⟩) (by assumption) ?_
        (rotate_left); (focus (intro wv hSw; (obtain ⟨qP, qQ, qR, qB⟩ := hSw); obtain ⟨_, _, _, _, _⟩ := blk2 qP; obtain ⟨_, _, _, _, _, _, _, _, _, _, _⟩ := blk5 qQ; obtain ⟨_, _, _, _, _, _, _⟩ := blk3 qR; go_simp; (try with_reducible rfl)))
        try simp only [Act.put, List.getElem_toArray, List.getElem_cons_succ, List.getElem_cons_zero, List.setIfInBounds_toArray, List.set_cons_zero, List.set_cons_succ]
        refine wpAnyH_take (i := 3) (oi := _) (v := ?_) rfl (by kernel_rfl) (by kernel_rfl) (by kernel_rfl) (fun _ _ _ h => h) (Or.inl ⟨by rfl, ?_⟩) (by assumption) ?_
        (rotate_left); (focus (intro wv hSw; (obtain ⟨qP, qQ, qR, qB⟩ := hSw); obtain ⟨_, _, _, _, _⟩ := blk2 qP; obtain ⟨_, _, _, _, _, _, _, _, _, _, _⟩ := blk5 qQ; obtain ⟨_, _, _, _, _, _, _⟩ := blk3 qR; go_simp; (try with_reducible rfl)))
        try simp only [Act.put, List.getElem_toArray, List.getElem_cons_succ, List.getElem_cons_zero, List.setIfInBounds_toArray, List.set_cons_zero, List.set_cons_succ]
        refine wpAnyH_take (i := 4) (oi := _) (v := ?_) rfl (by kernel_rfl) (by kernel_rfl) (by kernel_rfl) (fun _ _ _ h => h) (Or.inl ⟨by rfl, ?_⟩) (by assumption) ?_
        (rotate_left); (focus (intro wv hSw; (obtain ⟨qP, qQ, qR, qB⟩ := hSw); obtain ⟨_, _, _, _, _⟩ := blk2 qP; obtain ⟨_, _, _, _, _, _, _, _, _, _, _⟩ := blk5 qQ; obtain ⟨_, _, _, _, _, _, _⟩ := blk3 qR; go_simp; (try with_reducible rfl)))
        try simp only [Act.put, List.getElem_toArray, List.getElem_cons_succ, List.getElem_cons_zero, List.setIfInBounds_toArray, List.set_cons_zero, List.set_cons_succ]
        refine wpAnyH_take (i := 5) (oi := _) (v := ?_) rfl (by kernel_rfl) (by kernel_rfl) (by kernel_rfl) (fun _ _ _ h => h) (Or.inl ⟨by rfl, ?_⟩) (by assumption) ?_
        (rotate_left); (focus (intro wv hSw; (obtain ⟨qP, qQ, qR, qB⟩ := hSw); obtain ⟨_, _, _, _, _⟩ := blk2 qP; obtain ⟨_, _, _, _, _, _, _, _, _, _, _⟩ := blk5 qQ; obtain ⟨_, _, _, _, _, _, _⟩ := blk3 qR; go_simp; (try with_reducible rfl)))
        try simp only [Act.put, List.getElem_toArray, List.getElem_cons_succ, List.getElem_cons_zero, List.setIfInBounds_toArray, List.set_cons_zero, List.set_cons_succ]
        refine wpAnyH_take (i := 6) (oi := _) (v := ?_) rfl (by kernel_rfl) (by kernel_rfl) (by kernel_rfl) (fun _ _ _ h => h) (Or.inl ⟨by rfl, ?_⟩) (by assumption) ?_
        (rotate_left); (focus (intro wv hSw; (obtain ⟨qP, qQ, qR, qB⟩ := hSw); obtain ⟨_, _, _, _, _⟩ := blk2 qP; obtain ⟨_, _, _, _, _, _, _, _, _, _, _⟩ := blk5 qQ; obtain ⟨_, _, _, _, _, _, _⟩ := blk3 qR; go_simp; (try with_reducible rfl)))
        try simp only [Act.put, List.getElem_toArray, List.getElem_cons_succ, List.getElem_cons_zero, List.setIfInBounds_toArray, List.set_cons_zero, List.set_cons_succ]
        refine wpAnyH_take (i := 7) (oi := _) (v := ?_) rfl (by kernel_rfl) (by kernel_rfl) (by kernel_rfl) (fun _ _ _ h => h) (Or.inl ⟨by rfl, ?_⟩) (by assumption) ?_
        (rotate_left); (focus (intro wv hSw; (obtain ⟨qP, qQ, qR, qB⟩ := hSw); obtain ⟨_, _, _, _, _⟩ := blk2 qP; obtain ⟨_, _, _, _, _, _, _, _, _, _, _⟩ := blk5 qQ; obtain ⟨_, _, _, _, _, _, _⟩ := blk3 qR; go_simp; (try with_reducible rfl)))
        try simp only [Act.put, List.getElem_toArray, List.getElem_cons_succ, List.getElem_cons_zero, List.setIfInBounds_toArray, List.set_cons_zero, List.set_cons_succ]
        refine wpAnyH_take (i := 9) (oi := _) (v := ?_) rfl (by kernel_rfl) (by kernel_rfl) (by kernel_rfl) (fun _ _ _ h => h) (Or.inl ⟨by rfl, ?_⟩) (by assumption) ?_
        (rotate_left); (focus (intro wv hSw; (obtain ⟨qP, qQ, qR, qB⟩ := hSw); obtain ⟨_, _, _, _, _⟩ := blk2 qP; obtain ⟨_, _, _, _, _, _, _, _, _, _, _⟩ := blk5 qQ; obtain ⟨_, _, _, _, _, _, _⟩ := blk3 qR; go_simp; (try with_reducible rfl)))
        try simp only [Act.put, List.getElem_toArray, List.getElem_cons_succ, List.getElem_cons_zero, List.setIfInBounds_toArray, List.set_cons_zero, List.set_cons_succ]
        refine wpAnyH_take (i := 10) (oi := _) (v := ?_) rfl (by kernel_rfl) (by kernel_rfl) (by kernel_rfl) (fun _ _ _ h => h) (Or.inl ⟨by rfl, ?_⟩) (by assumption) ?_
        (rotate_left); (focus (intro wv hSw; (obtain ⟨qP, qQ, qR, qB⟩ := hSw); obtain ⟨_, _, _, _, _⟩ := blk2 qP; obtain ⟨_, _, _, _, _, _, _, _, _, _, _⟩ := blk5 qQ; obtain ⟨_, _, _, _, _, _, _⟩ := blk3 qR; go_simp; (try with_reducible rfl)))
        try simp only [Act.put, List.getElem_toArray, List.getElem_cons_succ, List.getElem_cons_zero, List.setIfInBounds_toArray, List.set_cons_zero, List.set_cons_succ]
        refine wpAnyH_take (i := 11) (oi := _) (v := ?_) rfl (by kernel_rfl) (by kernel_rfl) (by kernel_rfl) (fun _ _ _ h => h) (Or.inl ⟨by rfl, ?_⟩) (by assumption) ?_
        (rotate_left); (focus (intro wv hSw; (obtain ⟨qP, qQ, qR, qB⟩ := hSw); obtain ⟨_, _, _, _, _⟩ := blk2 qP; obtain ⟨_, _, _, _, _, _, _, _, _, _, _⟩ := blk5 qQ; obtain ⟨_, _, _, _, _, _, _⟩ := blk3 qR; go_simp; (try with_reducible rfl)))
        try simp only [Act.put, List.getElem_toArray, List.getElem_cons_succ, List.getElem_cons_zero, List.setIfInBounds_toArray, List.set_cons_zero, List.set_cons_succ]
        refine wpAnyH_take (i := 12) (oi := _) (v := ?_) rfl (by kernel_rfl) (by kernel_rfl) (by kernel_rfl) (fun _ _ _ h => h) (Or.inl ⟨by rfl, ?_⟩) (by assumption) ?_
        (rotate_left); (focus (intro wv hSw; (obtain ⟨qP, qQ, qR, qB⟩ := hSw); obtain ⟨_, _, _, _, _⟩ := blk2 qP; obtain ⟨_, _, _, _, _, _, _, _, _, _, _⟩ := blk5 qQ; obtain ⟨_, _, _, _, _, _, _⟩ := blk3 qR; go_simp; (try with_reducible rfl)))
        try simp only [Act.put, List.getElem_toArray, List.getElem_cons_succ, List.getElem_cons_zero, List.setIfInBounds_toArray, List.set_cons_zero, List.set_cons_succ]
        refine wpAnyH_take (i := 13) (oi := _) (v := ?_) rfl (by kernel_rfl) (by kernel_rfl) (by kernel_rfl) (fun _ _ _ h => h) (Or.inl ⟨by rfl, ?_⟩) (by assumption) ?_
        (rotate_left); (focus (intro wv hSw; (obtain ⟨qP, qQ, qR, qB⟩ := hSw); obtain ⟨_, _, _, _, _⟩ := blk2 qP; obtain ⟨_, _, _, _, _, _, _, _, _, _, _⟩ := blk5 qQ; obtain ⟨_, _, _, _, _, _, _⟩ := blk3 qR; go_simp; (try with_reducible rfl)))
        try simp only [Act.put, List.getElem_toArray, List.getElem_cons_succ, List.getElem_cons_zero, List.setIfInBounds_toArray, List.set_cons_zero, List.set_cons_succ]
        refine wpAnyH_take (i := 14) (oi := _) (v := ?_) rfl (by kernel_rfl) (by kernel_rfl) (by kernel_rfl) (fun _ _ _ h => h) (Or.inl ⟨by rfl, ?_⟩) (by assumption) ?_
        (rotate_left); (focus (intro wv hSw; (obtain ⟨qP, qQ, qR, qB⟩ := hSw); obtain ⟨_, _, _, _, _⟩ := blk2 qP; obtain ⟨_, _, _, _, _, _, _, _, _, _, _⟩ := blk5 qQ; obtain ⟨_, _, _, _, _, _, _⟩ := blk3 qR; go_simp; (try with_reducible rfl)))
        try simp only [Act.put, List.getElem_toArray, List.getElem_cons_succ, List.getElem_cons_zero, List.setIfInBounds_toArray, List.set_cons_zero, List.set_cons_succ]
        refine wpAnyH_take (i := 15) (oi := _) (v := ?_) rfl (by kernel_rfl) (by kernel_rfl) (by kernel_rfl) (fun _ _ _ h => h) (Or.inl ⟨by rfl, ?_⟩) (by assumption) ?_
        (rotate_left); (focus (intro wv hSw; (obtain ⟨qP, qQ, qR, qB⟩ := hSw); obtain ⟨_, _, _, _, _⟩ := blk2 qP; obtain ⟨_, _, _, _, _, _, _, _, _, _, _⟩ := blk5 qQ; obtain ⟨_, _, _, _, _, _, _⟩ := blk3 qR; go_simp; (try with_reducible rfl)))
        try simp only [Act.put, List.getElem_toArray, List.getElem_cons_succ, List.getElem_cons_zero, List.setIfInBounds_toArray, List.set_cons_zero, List.set_cons_succ]
        refine wpAnyH_take (i := 16) (oi := _) (v := ?_) rfl (by kernel_rfl) (by kernel_rfl) (by kernel_rfl) (fun _ _ _ h => h) (Or.inl ⟨by rfl, ?_⟩) (by assumption) ?_
        (rotate_left); (focus (intro wv hSw; (obtain ⟨qP, qQ, qR, qB⟩ := hSw); obtain ⟨_, _, _, _, _⟩ := blk2 qP; obtain ⟨_, _, _, _, _, _, _, _, _, _, _⟩ := blk5 qQ; obtain ⟨_, _, _, _, _, _, _⟩ := blk3 qR; go_simp; (try with_reducible rfl)))
        try simp only [Act.put, List.getElem_toArray, List.getElem_cons_succ, List.getElem_cons_zero, List.setIfInBounds_toArray, List.set_cons_zero, List.set_cons_succ]
        refine wpAnyH_take (i := 18) (oi := _) (v := ?_) rfl (by kernel_rfl) (by kernel_rfl) (by kernel_rfl) (fun _ _ _ h => h) (Or.inl ⟨by rfl, ?_⟩) (by assumption) ?_
        (rotate_left); (focus (intro wv hSw; (obtain ⟨qP, qQ, qR, qB⟩ := hSw); obtain ⟨_, _, _, _, _⟩ := blk2 qP; obtain ⟨_, _, _, _, _, _, _, _, _, _, _⟩ := blk5 qQ; obtain ⟨_, _, _, _, _, _, _⟩ := blk3 qR; go_simp; (try with_reducible rfl)))
        try simp only [Act.put, List.getElem_toArray, List.getElem_cons_succ, List.getElem_cons_zero, List.setIfInBounds_toArray, List.set_cons_zero, List.set_cons_succ]
        refine wpAnyH_take (i := 19) (oi := _) (v := ?_) rfl (by kernel_rfl) (by kernel_rfl) (by kernel_rfl) (fun _ _ _ h => h) (Or.inl ⟨by rfl, ?_⟩) (by assumption) ?_
        (rotate_left); (focus (intro wv hSw; (obtain ⟨qP, qQ, qR, qB⟩ := hSw); obtain ⟨_, _, _, _, _⟩ := blk2 qP; obtain ⟨_, _, _, _, _, _, _, _, _, _, _⟩ := blk5 qQ; obtain ⟨_, _, _, _, _, _, _⟩ := blk3 qR; go_simp; (try with_reducible rfl)))
        try simp only [Act.put, List.getElem_toArray, List.getElem_cons_succ, List.getElem_cons_zero, List.setIfInBounds_toArray, List.set_cons_zero, List.set_cons_succ]
        refine wpAnyH_take (i := 20) (oi := _) (v := ?_) rfl (by kernel_rfl) (by kernel_rfl) (by kernel_rfl) (fun _ _ _ h => h) (Or.inl ⟨by rfl, ?_⟩) (by assumption) ?_
        (rotate_left); (focus (intro wv hSw; (obtain ⟨qP, qQ, qR, qB⟩ := hSw); obtain ⟨_, _, _, _, _⟩ := blk2 qP; obtain ⟨_, _, _, _, _, _, _, _, _, _, _⟩ := blk5 qQ; obtain ⟨_, _, _, _, _, _, _⟩ := blk3 qR; go_simp; (try with_reducible rfl)))
        try simp only [Act.put, List.getElem_toArray, List.getElem_cons_succ, List.getElem_cons_zero, List.setIfInBounds_toArray, List.set_cons_zero, List.set_cons_succ]
        refine wpAnyH_take (i := 21) (oi := _) (v := ?_) rfl (by kernel_rfl) (by kernel_rfl) (by kernel_rfl) (fun _ _ _ h => h) (Or.inl ⟨by rfl, ?_⟩) (by assumption) ?_
        (rotate_left); (focus (intro wv hSw; (obtain ⟨qP, qQ, qR, qB⟩ := hSw); obtain ⟨_, _, _, _, _⟩ := blk2 qP; obtain ⟨_, _, _, _, _, _, _, _, _, _, _⟩ := blk5 qQ; obtain ⟨_, _, _, _, _, _, _⟩ := blk3 qR; go_simp; (try with_reducible rfl)))
        try simp only [Act.put, List.getElem_toArray, List.getElem_cons_succ, List.getElem_cons_zero, List.setIfInBounds_toArray, List.set_cons_zero, List.set_cons_succ]
        refine wpAnyH_ready (rs := [8, 25]) (by kernel_rfl) (by simp) ?_
        refine AllReadyH.cons (o := _) rfl (fun K hK => ?_) (AllReadyH.cons (o := _) rfl (fun K hK => ?_) (AllReadyH.nil))
        · go_simp
          (go_at_call 114; refine (within_any _ _ _ _ _ (by omega) (by omega) (by omega) (by omega) (by omega) (by omega) (by omega) (by omega)).mono ?_; rintro e x0c ⟨rfl, hw_0c⟩)
          refine hK.out _ _ ⟨blk_next hP_0 hw_0c, blk_next hQ_0 hw_0c, blk_next hR_0 hw_0c, bel_next hB_0 hw_0c⟩ (fun hHeld => ?_)
          clear hK K
          try simp only [Act.put, List.getElem_toArray, List.getElem_cons_succ, List.getElem_cons_zero, List.setIfInBounds_toArray, List.set_cons_zero, List.set_cons_succ]
          obtain ⟨hP_0c, hQ_0c, hR_0c, hB_0c⟩ := id hHeld
          refine wpAnyH_ready (rs := [17, 25]) (by kernel_rfl) (by simp) ?_
          refine AllReadyH.cons (o := _) rfl (fun K hK => ?_) (AllReadyH.cons (o := _) rfl (fun K hK => ?_) (AllReadyH.nil))
          · go_simp
            (go_at_call 114; refine (within_any _ _ _ _ _ (by omega) (by omega) (by omega) (by omega) (by omega) (by omega) (by omega) (by omega)).mono ?_; rintro e x0cc ⟨rfl, hw_0cc⟩)
            refine hK.out _ _ ⟨blk_next hP_0c hw_0cc, blk_next hQ_0c hw_0cc, blk_next hR_0c hw_0cc, bel_next hB_0c hw_0cc⟩ (fun hHeld => ?_)
            clear hK K
            try simp only [Act.put, List.getElem_toArray, List.getElem_cons_succ, List.getElem_cons_zero, List.setIfInBounds_toArray, List.set_cons_zero, List.set_cons_succ]
            obtain ⟨hP_0cc, hQ_0cc, hR_0cc, hB_0cc⟩ := id hHeld
            refine wpAnyH_ready (rs := [22, 25]) (by kernel_rfl) (by simp) ?_
            refine AllReadyH.cons (o := _) rfl (fun K hK => ?_) (AllReadyH.cons (o := _) rfl (fun K hK => ?_) (AllReadyH.nil))
            · go_simp
              (go_at_call 114; refine (withinH_any _ _ _ r4 r5 q6 q7).mono ?_; rintro e x0ccc ⟨rfl, hw_0ccc⟩)
              refine hK.out _ _ ⟨blk_next hP_0cc hw_0ccc, blk_next hQ_0cc hw_0ccc, blk_next hR_0cc hw_0ccc, bel_next hB_0cc hw_0ccc⟩ (fun hHeld => ?_)
              clear hK K
              try simp only [Act.put, List.getElem_toArray, List.getElem_cons_succ, List.getElem_cons_zero, List.setIfInBounds_toArray, List.set_cons_zero, List.set_cons_succ]
              obtain ⟨hP_0ccc, hQ_0ccc, hR_0ccc, hB_0ccc⟩ := id hHeld
              refine wpAnyH_ready (rs := [23, 25]) (by kernel_rfl) (by simp) ?_
              refine AllReadyH.cons (o := _) rfl (fun K hK => ?_) (AllReadyH.cons (o := _) rfl (fun K hK => ?_) (AllReadyH.nil))
              · go_simp
                refine hK.out _ _ ⟨blk_old hP_0ccc _, blk_old hQ_0ccc _, blk_old hR_0ccc _, hB_0ccc.alloc (by have := hB_0ccc.size; omega) _⟩ (fun hHeld => ?_)
                clear hK K
                try simp only [Act.put, List.getElem_toArray, List.getElem_cons_succ, List.getElem_cons_zero, List.setIfInBounds_toArray, List.set_cons_zero, List.set_cons_succ]
                obtain ⟨hP_0cccc, hQ_0cccc, hR_0cccc, hB_0cccc⟩ := id hHeld
                have hM_0cccc : (x0ccc.alloc (.cells #[.int .i64 (sN pn rn c d), .int .i64 (dN rn), .int .i64 (eN pn rn c d), .int .i64 (dN rn), .int .i64 0, .int .i64 ru, .int .i64 h, .int .i64 ru] 122)).heap[x0ccc.heap.size]? = some (.cells #[.int .i64 (sN pn rn c d), .int .i64 (dN rn), .int .i64 (eN pn rn c d), .int .i64 (dN rn), .int .i64 0, .int .i64 ru, .int .i64 h, .int .i64 ru] 122) := by have := blk_new (x0ccc) (.cells #[.int .i64 (sN pn rn c d), .int .i64 (dN rn), .int .i64 (eN pn rn c d), .int .i64 (dN rn), .int .i64 0, .int .i64 ru, .int .i64 h, .int .i64 ru] 122); simpa using this
                refine wpAnyH_ready (rs := [24, 25]) (by kernel_rfl) (by simp) ?_
                refine AllReadyH.cons (o := _) rfl (fun K hK => ?_) (AllReadyH.cons (o := _) rfl (fun K hK => ?_) (AllReadyH.nil))
                · go_simp
                  (go_at_call 113; refine (common_any (sN pe re a b, dN re) (eN pe re a b, dN re) (sN pn rn c d, dN rn) (eN pn rn c d, dN rn) (0, ru) (h, ru) _ _ _ F1 F2 F3 G1 G2 G3 hM_0cccc).mono ?_; rintro e x0ccccc ⟨rfl, hw_0ccccc⟩)
                  refine hK.out _ _ ⟨blk_next hP_0cccc hw_0ccccc, blk_next hQ_0cccc hw_0ccccc, blk_next hR_0cccc hw_0ccccc, bel_next hB_0cccc hw_0ccccc⟩ (fun hHeld => ?_)
                  clear hK K
                  try simp only [Act.put, List.getElem_toArray, List.getElem_cons_succ, List.getElem_cons_zero, List.setIfInBounds_toArray, List.set_cons_zero, List.set_cons_succ]
                  obtain ⟨hP_0ccccc, hQ_0ccccc, hR_0ccccc, hB_0ccccc⟩ := id hHeld
                  have hM_0ccccc := blk_next hM_0cccc hw_0ccccc
                  refine wpAnyH_ready (rs := [25]) (by kernel_rfl) (by simp) ?_
                  refine AllReadyH.cons (o := _) rfl (fun K hK => ?_) (AllReadyH.nil)
                  go_simp
                  refine hK.out _ _ ⟨blk_old hP_0ccccc _, blk_old hQ_0ccccc _, blk_old hR_0ccccc _, hB_0ccccc.alloc (by have := hB_0ccccc.size; omega) _⟩ (fun hHeld => ?_)
                  clear hK K
                  try simp only [Act.put, List.getElem_toArray, List.getElem_cons_succ, List.getElem_cons_zero, List.setIfInBounds_toArray, List.set_cons_zero, List.set_cons_succ]
                  obtain ⟨hP_0ccccca, hQ_0ccccca, hR_0ccccca, hB_0ccccca⟩ := id hHeld
                  have hM_0ccccca := blk_old hM_0ccccc (.cells #[.int .i64 0, .int .i64 0, .int .i64 0, .int .i64 0] 122)
                  have hN_0ccccca : (x0ccccc.alloc (.cells #[.int .i64 0, .int .i64 0, .int .i64 0, .int .i64 0] 122)).heap[x0ccccc.heap.size]? = some (.cells #[.int .i64 0, .int .i64 0, .int .i64 0, .int .i64 0] 122) := by have := blk_new (x0ccccc) (.cells #[.int .i64 0, .int .i64 0, .int .i64 0, .int .i64 0] 122); simpa using this
                  have zNP_0ccccca : w.heap.size < x0ccccc.heap.size := by have := blk_lt hP_0ccccc; simpa using this
                  have zNQ_0ccccca : w.heap.size + 1 < x0ccccc.heap.size := by have := blk_lt hQ_0ccccc; simpa using this
                  have zNR_0ccccca : w.heap.size + 1 + 1 < x0ccccc.heap.size := by have := blk_lt hR_0ccccc; simpa using this
                  have zNB_0ccccca : w.heap.size ≤ x0ccccc.heap.size := by have := hB_0ccccc.size; simpa using this
                  refine wpAnyH_ready (rs := [26]) (by kernel_rfl) (by simp) ?_
                  refine AllReadyH.cons (o := _) rfl (fun K hK => ?_) (AllReadyH.nil)
                  obtain ⟨sc0_0cccccac, sc1_0cccccac, sc2_0cccccac, sc3_0cccccac, sf0_0cccccac, sf1_0cccccac, sf2_0cccccac, sf3_0cccccac, sz_0cccccac⟩ := blk4 hN_0ccccca
                  go_simp
                  refine hK.out _ _ ⟨blk_old hP_0ccccc _, blk_old hQ_0ccccc _, blk_old hR_0ccccc _, hB_0ccccc.alloc (by have := hB_0ccccc.size; omega) _⟩ (fun hHeld => ?_)
                  clear hK K
                  try simp only [Act.put, List.getElem_toArray, List.getElem_cons_succ, List.getElem_cons_zero, List.setIfInBounds_toArray, List.set_cons_zero, List.set_cons_succ]
                  obtain ⟨hP_0cccccac, hQ_0cccccac, hR_0cccccac, hB_0cccccac⟩ := id hHeld
                  have hN_0cccccac : (x0ccccc.alloc (.cells #[.int .i64 (maxF (maxF (sN pe re a b, dN re) (sN pn rn c d, dN rn)) (0, ru)).1, .int .i64 (maxF (maxF (sN pe re a b, dN re) (sN pn rn c d, dN rn)) (0, ru)).2, .int .i64 (minF (minF (eN pe re a b, dN re) (eN pn rn c d, dN rn)) (h, ru)).1, .int .i64 (minF (minF (eN pe re a b, dN re) (eN pn rn c d, dN rn)) (h, ru)).2] 122)).heap[x0ccccc.heap.size]? = some (.cells #[.int .i64 (maxF (maxF (sN pe re a b, dN re) (sN pn rn c d, dN rn)) (0, ru)).1, .int .i64 (maxF (maxF (sN pe re a b, dN re) (sN pn rn c d, dN rn)) (0, ru)).2, .int .i64 (minF (minF (eN pe re a b, dN re) (eN pn rn c d, dN rn)) (h, ru)).1, .int .i64 (minF (minF (eN pe re a b, dN re) (eN pn rn c d, dN rn)) (h, ru)).2] 122) := by have := blk_new (x0ccccc) (.cells #[.int .i64 (maxF (maxF (sN pe re a b, dN re) (sN pn rn c d, dN rn)) (0, ru)).1, .int .i64 (maxF (maxF (sN pe re a b, dN re) (sN pn rn c d, dN rn)) (0, ru)).2, .int .i64 (minF (minF (eN pe re a b, dN re) (eN pn rn c d, dN rn)) (h, ru)).1, .int .i64 (minF (minF (eN pe re a b, dN re) (eN pn rn c d, dN rn)) (h, ru)).2] 122); simpa using this
                  refine wpAnyH_done (by kernel_rfl) ?_ _
                  obtain ⟨n0, n1, n2, n3, _, _, _, _, zn⟩ := blk4 hN_0cccccac
                  go_wp2_with fail
                  refine (befR_any _ _ _ _ _ FE FS).mono ?_; rintro E w9 ⟨rfl, hw9⟩
                  go_wp2
                  go_ret
                  exact ⟨rfl, bel_next hB_0cccccac hw9⟩
                · go_simp
                  refine hK.out _ _ ⟨blk_old hP_0cccc _, blk_old hQ_0cccc _, blk_old hR_0cccc _, hB_0cccc.alloc (by have := hB_0cccc.size; omega) _⟩ (fun hHeld => ?_)
                  clear hK K
                  try simp only [Act.put, List.getElem_toArray, List.getElem_cons_succ, List.getElem_cons_zero, List.setIfInBounds_toArray, List.set_cons_zero, List.set_cons_succ]
                  obtain ⟨hP_0cccca, hQ_0cccca, hR_0cccca, hB_0cccca⟩ := id hHeld
                  have hM_0cccca := blk_old hM_0cccc (.cells #[.int .i64 0, .int .i64 0, .int .i64 0, .int .i64 0] 122)
                  have hN_0cccca : ((x0ccc.alloc (.cells #[.int .i64 (sN pn rn c d), .int .i64 (dN rn), .int .i64 (eN pn rn c d), .int .i64 (dN rn), .int .i64 0, .int .i64 ru, .int .i64 h, .int .i64 ru] 122)).alloc (.cells #[.int .i64 0, .int .i64 0, .int .i64 0, .int .i64 0] 122)).heap[x0ccc.heap.size + 1]? = some (.cells #[.int .i64 0, .int .i64 0, .int .i64 0, .int .i64 0] 122) := by have := blk_new ((x0ccc.alloc (.cells #[.int .i64 (sN pn rn c d), .int .i64 (dN rn), .int .i64 (eN pn rn c d), .int .i64 (dN rn), .int .i64 0, .int .i64 ru, .int .i64 h, .int .i64 ru] 122))) (.cells #[.int .i64 0, .int .i64 0, .int .i64 0, .int .i64 0] 122); simpa using this
                  have zNP_0cccca : w.heap.size < x0ccc.heap.size + 1 := by have := blk_lt hP_0cccc; simpa using this
                  have zNQ_0cccca : w.heap.size + 1 < x0ccc.heap.size + 1 := by have := blk_lt hQ_0cccc; simpa using this
                  have zNR_0cccca : w.heap.size + 1 + 1 < x0ccc.heap.size + 1 := by have := blk_lt hR_0cccc; simpa using this
                  have zNB_0cccca : w.heap.size ≤ x0ccc.heap.size + 1 := by have := hB_0cccc.size; simpa using this
                  refine wpAnyH_ready (rs := [24]) (by kernel_rfl) (by simp) ?_
                  refine AllReadyH.cons (o := _) rfl (fun K hK => ?_) (AllReadyH.nil)
                  go_simp
                  (go_at_call 113; refine (common_any (sN pe re a b, dN re) (eN pe re a b, dN re) (sN pn rn c d, dN rn) (eN pn rn c d, dN rn) (0, ru) (h, ru) _ _ _ F1 F2 F3 G1 G2 G3 hM_0cccca).mono ?_; rintro e x0ccccac ⟨rfl, hw_0ccccac⟩)
                  refine hK.out _ _ ⟨blk_next hP_0cccca hw_0ccccac, blk_next hQ_0cccca hw_0ccccac, blk_next hR_0cccca hw_0ccccac, bel_next hB_0cccca hw_0ccccac⟩ (fun hHeld => ?_)
                  clear hK K
                  try simp only [Act.put, List.getElem_toArray, List.getElem_cons_succ, List.getElem_cons_zero, List.setIfInBounds_toArray, List.set_cons_zero, List.set_cons_succ]
                  obtain ⟨hP_0ccccac, hQ_0ccccac, hR_0ccccac, hB_0ccccac⟩ := id hHeld
                  have hM_0ccccac := blk_next hM_0cccca hw_0ccccac
                  have hN_0ccccac := blk_next hN_0cccca hw_0ccccac
                  refine wpAnyH_ready (rs := [26]) (by kernel_rfl) (by simp) ?_
                  refine AllReadyH.cons (o := _) rfl (fun K hK => ?_) (AllReadyH.nil)
                  obtain ⟨sc0_0ccccacc, sc1_0ccccacc, sc2_0ccccacc, sc3_0ccccacc, sf0_0ccccacc, sf1_0ccccacc, sf2_0ccccacc, sf3_0ccccacc, sz_0ccccacc⟩ := blk4 hN_0ccccac
                  go_simp
                  refine hK.out _ _ ⟨blk_store4 hP_0ccccac (Nat.ne_of_lt zNP_0cccca) _ _ _ _, blk_store4 hQ_0ccccac (Nat.ne_of_lt zNQ_0cccca) _ _ _ _, blk_store4 hR_0ccccac (Nat.ne_of_lt zNR_0cccca) _ _ _ _, store4_bel hB_0ccccac zNB_0cccca _ _ _ _⟩ (fun hHeld => ?_)
                  clear hK K
                  try simp only [Act.put, List.getElem_toArray, List.getElem_cons_succ, List.getElem_cons_zero, List.setIfInBounds_toArray, List.set_cons_zero, List.set_cons_succ]
                  obtain ⟨hP_0ccccacc, hQ_0ccccacc, hR_0ccccacc, hB_0ccccacc⟩ := id hHeld
                  have hN_0ccccacc := blk4_put (y0 := .int .i64 (maxF (maxF (sN pe re a b, dN re) (sN pn rn c d, dN rn)) (0, ru)).1) (y1 := .int .i64 (maxF (maxF (sN pe re a b, dN re) (sN pn rn c d, dN rn)) (0, ru)).2) (y2 := .int .i64 (minF (minF (eN pe re a b, dN re) (eN pn rn c d, dN rn)) (h, ru)).1) (y3 := .int .i64 (minF (minF (eN pe re a b, dN re) (eN pn rn c d, dN rn)) (h, ru)).2) hN_0ccccac
                  refine wpAnyH_done (by kernel_rfl) ?_ _
                  obtain ⟨n0, n1, n2, n3, _, _, _, _, zn⟩ := blk4 hN_0ccccacc
                  go_wp2_with fail
                  refine (befR_any _ _ _ _ _ FE FS).mono ?_; rintro E w9 ⟨rfl, hw9⟩
                  go_wp2
                  go_ret
                  exact ⟨rfl, bel_next hB_0ccccacc hw9⟩
              · go_simp
                refine hK.out _ _ ⟨blk_old hP_0ccc _, blk_old hQ_0ccc _, blk_old hR_0ccc _, hB_0ccc.alloc (by have := hB_0ccc.size; omega) _⟩ (fun hHeld => ?_)
                clear hK K
                try simp only [Act.put, List.getElem_toArray, List.getElem_cons_succ, List.getElem_cons_zero, List.setIfInBounds_toArray, List.set_cons_zero, List.set_cons_succ]
                obtain ⟨hP_0ccca, hQ_0ccca, hR_0ccca, hB_0ccca⟩ := id hHeld
                have hN_0ccca : (x0ccc.alloc (.cells #[.int .i64 0, .int .i64 0, .int .i64 0, .int .i64 0] 122)).heap[x0ccc.heap.size]? = some (.cells #[.int .i64 0, .int .i64 0, .int .i64 0, .int .i64 0] 122) := by have := blk_new (x0ccc) (.cells #[.int .i64 0, .int .i64 0, .int .i64 0, .int .i64 0] 122); simpa using this
                have zNP_0ccca : w.heap.size < x0ccc.heap.size := by have := blk_lt hP_0ccc; simpa using this
                have zNQ_0ccca : w.heap.size + 1 < x0ccc.heap.size := by have := blk_lt hQ_0ccc; simpa using this
                have zNR_0ccca : w.heap.size + 1 + 1 < x0ccc.heap.size := by have := blk_lt hR_0ccc; simpa using this
                have zNB_0ccca : w.heap.size ≤ x0ccc.heap.size := by have := hB_0ccc.size; simpa using this
                refine wpAnyH_ready (rs := [23]) (by kernel_rfl) (by simp) ?_
                refine AllReadyH.cons (o := _) rfl (fun K hK => ?_) (AllReadyH.nil)
                go_simp
                refine hK.out _ _ ⟨blk_old hP_0ccca _, blk_old hQ_0ccca _, blk_old hR_0ccca _, hB_0ccca.alloc (by have := hB_0ccca.size; omega) _⟩ (fun hHeld => ?_)
                clear hK K
                try simp only [Act.put, List.getElem_toArray, List.getElem_cons_succ, List.getElem_cons_zero, List.setIfInBounds_toArray, List.set_cons_zero, List.set_cons_succ]
                obtain ⟨hP_0cccac, hQ_0cccac, hR_0cccac, hB_0cccac⟩ := id hHeld
                have hN_0cccac := blk_old hN_0ccca (.cells #[.int .i64 (sN pn rn c d), .int .i64 (dN rn), .int .i64 (eN pn rn c d), .int .i64 (dN rn), .int .i64 0, .int .i64 ru, .int .i64 h, .int .i64 ru] 122)
                have hM_0cccac : ((x0ccc.alloc (.cells #[.int .i64 0, .int .i64 0, .int .i64 0, .int .i64 0] 122)).alloc (.cells #[.int .i64 (sN pn rn c d), .int .i64 (dN rn), .int .i64 (eN pn rn c d), .int .i64 (dN rn), .int .i64 0, .int .i64 ru, .int .i64 h, .int .i64 ru] 122)).heap[x0ccc.heap.size + 1]? = some (.cells #[.int .i64 (sN pn rn c d), .int .i64 (dN rn), .int .i64 (eN pn rn c d), .int .i64 (dN rn), .int .i64 0, .int .i64 ru, .int .i64 h, .int .i64 ru] 122) := by have := blk_new ((x0ccc.alloc (.cells #[.int .i64 0, .int .i64 0, .int .i64 0, .int .i64 0] 122))) (.cells #[.int .i64 (sN pn rn c d), .int .i64 (dN rn), .int .i64 (eN pn rn c d), .int .i64 (dN rn), .int .i64 0, .int .i64 ru, .int .i64 h, .int .i64 ru] 122); simpa using this
                refine wpAnyH_ready (rs := [24]) (by kernel_rfl) (by simp) ?_
                refine AllReadyH.cons (o := _) rfl (fun K hK => ?_) (AllReadyH.nil)
                go_simp
                (go_at_call 113; refine (common_any (sN pe re a b, dN re) (eN pe re a b, dN re) (sN pn rn c d, dN rn) (eN pn rn c d, dN rn) (0, ru) (h, ru) _ _ _ F1 F2 F3 G1 G2 G3 hM_0cccac).mono ?_; rintro e x0cccacc ⟨rfl, hw_0cccacc⟩)
                refine hK.out _ _ ⟨blk_next hP_0cccac hw_0cccacc, blk_next hQ_0cccac hw_0cccacc, blk_next hR_0cccac hw_0cccacc, bel_next hB_0cccac hw_0cccacc⟩ (fun hHeld => ?_)
                clear hK K
                try simp only [Act.put, List.getElem_toArray, List.getElem_cons_succ, List.getElem_cons_zero, List.setIfInBounds_toArray, List.set_cons_zero, List.set_cons_succ]
                obtain ⟨hP_0cccacc, hQ_0cccacc, hR_0cccacc, hB_0cccacc⟩ := id hHeld
                have hN_0cccacc := blk_next hN_0cccac hw_0cccacc
                have hM_0cccacc := blk_next hM_0cccac hw_0cccacc
                refine wpAnyH_ready (rs := [26]) (by kernel_rfl) (by simp) ?_
                refine AllReadyH.cons (o := _) rfl (fun K hK => ?_) (AllReadyH.nil)
                obtain ⟨sc0_0cccaccc, sc1_0cccaccc, sc2_0cccaccc, sc3_0cccaccc, sf0_0cccaccc, sf1_0cccaccc, sf2_0cccaccc, sf3_0cccaccc, sz_0cccaccc⟩ := blk4 hN_0cccacc
                go_simp
                refine hK.out _ _ ⟨blk_store4 hP_0cccacc (Nat.ne_of_lt zNP_0ccca) _ _ _ _, blk_store4 hQ_0cccacc (Nat.ne_of_lt zNQ_0ccca) _ _ _ _, blk_store4 hR_0cccacc (Nat.ne_of_lt zNR_0ccca) _ _ _ _, store4_bel hB_0cccacc zNB_0ccca _ _ _ _⟩ (fun hHeld => ?_)
                clear hK K
                try simp only [Act.put, List.getElem_toArray, List.getElem_cons_succ, List.getElem_cons_zero, List.setIfInBounds_toArray, List.set_cons_zero, List.set_cons_succ]
                obtain ⟨hP_0cccaccc, hQ_0cccaccc, hR_0cccaccc, hB_0cccaccc⟩ := id hHeld
                have hN_0cccaccc := blk4_put (y0 := .int .i64 (maxF (maxF (sN pe re a b, dN re) (sN pn rn c d, dN rn)) (0, ru)).1) (y1 := .int .i64 (maxF (maxF (sN pe re a b, dN re) (sN pn rn c d, dN rn)) (0, ru)).2) (y2 := .int .i64 (minF (minF (eN pe re a b, dN re) (eN pn rn c d, dN rn)) (h, ru)).1) (y3 := .int .i64 (minF (minF (eN pe re a b, dN re) (eN pn rn c d, dN rn)) (h, ru)).2) hN_0cccacc
                refine wpAnyH_done (by kernel_rfl) ?_ _
                obtain ⟨n0, n1, n2, n3, _, _, _, _, zn⟩ := blk4 hN_0cccaccc
                go_wp2_with fail
                refine (befR_any _ _ _ _ _ FE FS).mono ?_; rintro E w9 ⟨rfl, hw9⟩
                go_wp2
                go_ret
                exact ⟨rfl, bel_next hB_0cccaccc hw9⟩
            · go_simp
              refine hK.out _ _ ⟨blk_old hP_0cc _, blk_old hQ_0cc _, blk_old hR_0cc _, hB_0cc.alloc (by have := hB_0cc.size; omega) _⟩ (fun hHeld => ?_)
              clear hK K
              try simp only [Act.put, List.getElem_toArray, List.getElem_cons_succ, List.getElem_cons_zero, List.setIfInBounds_toArray, List.set_cons_zero, List.set_cons_succ]
              obtain ⟨hP_0cca, hQ_0cca, hR_0cca, hB_0cca⟩ := id hHeld
              have hN_0cca : (x0cc.alloc (.cells #[.int .i64 0, .int .i64 0, .int .i64 0, .int .i64 0] 122)).heap[x0cc.heap.size]? = some (.cells #[.int .i64 0, .int .i64 0, .int .i64 0, .int .i64 0] 122) := by have := blk_new (x0cc) (.cells #[.int .i64 0, .int .i64 0, .int .i64 0, .int .i64 0] 122); simpa using this
              have zNP_0cca : w.heap.size < x0cc.heap.size := by have := blk_lt hP_0cc; simpa using this
              have zNQ_0cca : w.heap.size + 1 < x0cc.heap.size := by have := blk_lt hQ_0cc; simpa using this
              have zNR_0cca : w.heap.size + 1 + 1 < x0cc.heap.size := by have := blk_lt hR_0cc; simpa using this
              have zNB_0cca : w.heap.size ≤ x0cc.heap.size := by have := hB_0cc.size; simpa using this
              refine wpAnyH_ready (rs := [22]) (by kernel_rfl) (by simp) ?_
              refine AllReadyH.cons (o := _) rfl (fun K hK => ?_) (AllReadyH.nil)
              go_simp
              (go_at_call 114; refine (withinH_any _ _ _ r4 r5 q6 q7).mono ?_; rintro e x0ccac ⟨rfl, hw_0ccac⟩)
              refine hK.out _ _ ⟨blk_next hP_0cca hw_0ccac, blk_next hQ_0cca hw_0ccac, blk_next hR_0cca hw_0ccac, bel_next hB_0cca hw_0ccac⟩ (fun hHeld => ?_)
              clear hK K
              try simp only [Act.put, List.getElem_toArray, List.getElem_cons_succ, List.getElem_cons_zero, List.setIfInBounds_toArray, List.set_cons_zero, List.set_cons_succ]
              obtain ⟨hP_0ccac, hQ_0ccac, hR_0ccac, hB_0ccac⟩ := id hHeld
              have hN_0ccac := blk_next hN_0cca hw_0ccac
              refine wpAnyH_ready (rs := [23]) (by kernel_rfl) (by simp) ?_
              refine AllReadyH.cons (o := _) rfl (fun K hK => ?_) (AllReadyH.nil)
              go_simp
              refine hK.out _ _ ⟨blk_old hP_0ccac _, blk_old hQ_0ccac _, blk_old hR_0ccac _, hB_0ccac.alloc (by have := hB_0ccac.size; omega) _⟩ (fun hHeld => ?_)
              clear hK K
              try simp only [Act.put, List.getElem_toArray, List.getElem_cons_succ, List.getElem_cons_zero, List.setIfInBounds_toArray, List.set_cons_zero, List.set_cons_succ]
              obtain ⟨hP_0ccacc, hQ_0ccacc, hR_0ccacc, hB_0ccacc⟩ := id hHeld
              have hN_0ccacc := blk_old hN_0ccac (.cells #[.int .i64 (sN pn rn c d), .int .i64 (dN rn), .int .i64 (eN pn rn c d), .int .i64 (dN rn), .int .i64 0, .int .i64 ru, .int .i64 h, .int .i64 ru] 122)
              have hM_0ccacc : (x0ccac.alloc (.cells #[.int .i64 (sN pn rn c d), .int .i64 (dN rn), .int .i64 (eN pn rn c d), .int .i64 (dN rn), .int .i64 0, .int .i64 ru, .int .i64 h, .int .i64 ru] 122)).heap[x0ccac.heap.size]? = some (.cells #[.int .i64 (sN pn rn c d), .int .i64 (dN rn), .int .i64 (eN pn rn c d), .int .i64 (dN rn), .int .i64 0, .int .i64 ru, .int .i64 h, .int .i64 ru] 122) := by have := blk_new (x0ccac) (.cells #[.int .i64 (sN pn rn c d), .int .i64 (dN rn), .int .i64 (eN pn rn c d), .int .i64 (dN rn), .int .i64 0, .int .i64 ru, .int .i64 h, .int .i64 ru] 122); simpa using this
              refine wpAnyH_ready (rs := [24]) (by kernel_rfl) (by simp) ?_
              refine AllReadyH.cons (o := _) rfl (fun K hK => ?_) (AllReadyH.nil)
              go_simp
              (go_at_call 113; refine (common_any (sN pe re a b, dN re) (eN pe re a b, dN re) (sN pn rn c d, dN rn) (eN pn rn c d, dN rn) (0, ru) (h, ru) _ _ _ F1 F2 F3 G1 G2 G3 hM_0ccacc).mono ?_; rintro e x0ccaccc ⟨rfl, hw_0ccaccc⟩)
              refine hK.out _ _ ⟨blk_next hP_0ccacc hw_0ccaccc, blk_next hQ_0ccacc hw_0ccaccc, blk_next hR_0ccacc hw_0ccaccc, bel_next hB_0ccacc hw_0ccaccc⟩ (fun hHeld => ?_)
              clear hK K
              try simp only [Act.put, List.getElem_toArray, List.getElem_cons_succ, List.getElem_cons_zero, List.setIfInBounds_toArray, List.set_cons_zero, List.set_cons_succ]
              obtain ⟨hP_0ccaccc, hQ_0ccaccc, hR_0ccaccc, hB_0ccaccc⟩ := id hHeld
              have hN_0ccaccc := blk_next hN_0ccacc hw_0ccaccc
              have hM_0ccaccc := blk_next hM_0ccacc hw_0ccaccc
              refine wpAnyH_ready (rs := [26]) (by kernel_rfl) (by simp) ?_
              refine AllReadyH.cons (o := _) rfl (fun K hK => ?_) (AllReadyH.nil)
              obtain ⟨sc0_0ccacccc, sc1_0ccacccc, sc2_0ccacccc, sc3_0ccacccc, sf0_0ccacccc, sf1_0ccacccc, sf2_0ccacccc, sf3_0ccacccc, sz_0ccacccc⟩ := blk4 hN_0ccaccc
              go_simp
              refine hK.out _ _ ⟨blk_store4 hP_0ccaccc (Nat.ne_of_lt zNP_0cca) _ _ _ _, blk_store4 hQ_0ccaccc (Nat.ne_of_lt zNQ_0cca) _ _ _ _, blk_store4 hR_0ccaccc (Nat.ne_of_lt zNR_0cca) _ _ _ _, store4_bel hB_0ccaccc zNB_0cca _ _ _ _⟩ (fun hHeld => ?_)
              clear hK K
              try simp only [Act.put, List.getElem_toArray, List.getElem_cons_succ, List.getElem_cons_zero, List.setIfInBounds_toArray, List.set_cons_zero, List.set_cons_succ]
              obtain ⟨hP_0ccacccc, hQ_0ccacccc, hR_0ccacccc, hB_0ccacccc⟩ := id hHeld
              have hN_0ccacccc := blk4_put (y0 := .int .i64 (maxF (maxF (sN pe re a b, dN re) (sN pn rn c d, dN rn)) (0, ru)).1) (y1 := .int .i64 (maxF (maxF (sN pe re a b, dN re) (sN pn rn c d, dN rn)) (0, ru)).2) (y2 := .int .i64 (minF (minF (eN pe re a b, dN re) (eN pn rn c d, dN rn)) (h, ru)).1) (y3 := .int .i64 (minF (minF (eN pe re a b, dN re) (eN pn rn c d, dN rn)) (h, ru)).2) hN_0ccaccc
              refine wpAnyH_done (by kernel_rfl) ?_ _
              obtain ⟨n0, n1, n2, n3, _, _, _, _, zn⟩ := blk4 hN_0ccacccc
              go_wp2_with fail
              refine (befR_any _ _ _ _ _ FE FS).mono ?_; rintro E w9 ⟨rfl, hw9⟩
              go_wp2
              go_ret
              exact ⟨rfl, bel_next hB_0ccacccc hw9⟩
          · go_simp
            refine hK.out _ _ ⟨blk_old hP_0c _, blk_old hQ_0c _, blk_old hR_0c _, hB_0c.alloc (by have := hB_0c.size; omega) _⟩ (fun hHeld => ?_)
            clear hK K
            try simp only [Act.put, List.getElem_toArray, List.getElem_cons_succ, List.getElem_cons_zero, List.setIfInBounds_toArray, List.set_cons_zero, List.set_cons_succ]
            obtain ⟨hP_0ca, hQ_0ca, hR_0ca, hB_0ca⟩ := id hHeld
            have hN_0ca : (x0c.alloc (.cells #[.int .i64 0, .int .i64 0, .int .i64 0, .int .i64 0] 122)).heap[x0c.heap.size]? = some (.cells #[.int .i64 0, .int .i64 0, .int .i64 0, .int .i64 0] 122) := by have := blk_new (x0c) (.cells #[.int .i64 0, .int .i64 0, .int .i64 0, .int .i64 0] 122); simpa using this
            have zNP_0ca : w.heap.size < x0c.heap.size := by have := blk_lt hP_0c; simpa using this
            have zNQ_0ca : w.heap.size + 1 < x0c.heap.size := by have := blk_lt hQ_0c; simpa using this
            have zNR_0ca : w.heap.size + 1 + 1 < x0c.heap.size := by have := blk_lt hR_0c; simpa using this
            have zNB_0ca : w.heap.size ≤ x0c.heap.size := by have := hB_0c.size; simpa using this
            refine wpAnyH_ready (rs := [17]) (by kernel_rfl) (by simp) ?_
            refine AllReadyH.cons (o := _) rfl (fun K hK => ?_) (AllReadyH.nil)
            go_simp
            (go_at_call 114; refine (within_any _ _ _ _ _ (by omega) (by omega) (by omega) (by omega) (by omega) (by omega) (by omega) (by omega)).mono ?_; rintro e x0cac ⟨rfl, hw_0cac⟩)
            refine hK.out _ _ ⟨blk_next hP_0ca hw_0cac, blk_next hQ_0ca hw_0cac, blk_next hR_0ca hw_0cac, bel_next hB_0ca hw_0cac⟩ (fun hHeld => ?_)
            clear hK K
            try simp only [Act.put, List.getElem_toArray, List.getElem_cons_succ, List.getElem_cons_zero, List.setIfInBounds_toArray, List.set_cons_zero, List.set_cons_succ]
            obtain ⟨hP_0cac, hQ_0cac, hR_0cac, hB_0cac⟩ := id hHeld
            have hN_0cac := blk_next hN_0ca hw_0cac
            refine wpAnyH_ready (rs := [22]) (by kernel_rfl) (by simp) ?_
            refine AllReadyH.cons (o := _) rfl (fun K hK => ?_) (AllReadyH.nil)
            go_simp
            (go_at_call 114; refine (withinH_any _ _ _ r4 r5 q6 q7).mono ?_; rintro e x0cacc ⟨rfl, hw_0cacc⟩)
            refine hK.out _ _ ⟨blk_next hP_0cac hw_0cacc, blk_next hQ_0cac hw_0cacc, blk_next hR_0cac hw_0cacc, bel_next hB_0cac hw_0cacc⟩ (fun hHeld => ?_)
            clear hK K
            try simp only [Act.put, List.getElem_toArray, List.getElem_cons_succ, List.getElem_cons_zero, List.setIfInBounds_toArray, List.set_cons_zero, List.set_cons_succ]
            obtain ⟨hP_0cacc, hQ_0cacc, hR_0cacc, hB_0cacc⟩ := id hHeld
            have hN_0cacc := blk_next hN_0cac hw_0cacc
            refine wpAnyH_ready (rs := [23]) (by kernel_rfl) (by simp) ?_
            refine AllReadyH.cons (o := _) rfl (fun K hK => ?_) (AllReadyH.nil)
            go_simp
            refine hK.out _ _ ⟨blk_old hP_0cacc _, blk_old hQ_0cacc _, blk_old hR_0cacc _, hB_0cacc.alloc (by have := hB_0cacc.size; omega) _⟩ (fun hHeld => ?_)
            clear hK K
            try simp only [Act.put, List.getElem_toArray, List.getElem_cons_succ, List.getElem_cons_zero, List.setIfInBounds_toArray, List.set_cons_zero, List.set_cons_succ]
            obtain ⟨hP_0caccc, hQ_0caccc, hR_0caccc, hB_0caccc⟩ := id hHeld
            have hN_0caccc := blk_old hN_0cacc (.cells #[.int .i64 (sN pn rn c d), .int .i64 (dN rn), .int .i64 (eN pn rn c d), .int .i64 (dN rn), .int .i64 0, .int .i64 ru, .int .i64 h, .int .i64 ru] 122)
            have hM_0caccc : (x0cacc.alloc (.cells #[.int .i64 (sN pn rn c d), .int .i64 (dN rn), .int .i64 (eN pn rn c d), .int .i64 (dN rn), .int .i64 0, .int .i64 ru, .int .i64 h, .int .i64 ru] 122)).heap[x0cacc.heap.size]? = some (.cells #[.int .i64 (sN pn rn c d), .int .i64 (dN rn), .int .i64 (eN pn rn c d), .int .i64 (dN rn), .int .i64 0, .int .i64 ru, .int .i64 h, .int .i64 ru] 122) := by have := blk_new (x0cacc) (.cells #[.int .i64 (sN pn rn c d), .int .i64 (dN rn), .int .i64 (eN pn rn c d), .int .i64 (dN rn), .int .i64 0, .int .i64 ru, .int .i64 h, .int .i64 ru] 122); simpa using this
            refine wpAnyH_ready (rs := [24]) (by kernel_rfl) (by simp) ?_
            refine AllReadyH.cons (o := _) rfl (fun K hK => ?_) (AllReadyH.nil)
            go_simp
            (go_at_call 113; refine (common_any (sN pe re a b, dN re) (eN pe re a b, dN re) (sN pn rn c d, dN rn) (eN pn rn c d, dN rn) (0, ru) (h, ru) _ _ _ F1 F2 F3 G1 G2 G3 hM_0caccc).mono ?_; rintro e x0cacccc ⟨rfl, hw_0cacccc⟩)
            refine hK.out _ _ ⟨blk_next hP_0caccc hw_0cacccc, blk_next hQ_0caccc hw_0cacccc, blk_next hR_0caccc hw_0cacccc, bel_next hB_0caccc hw_0cacccc⟩ (fun hHeld => ?_)
            clear hK K
            try simp only [Act.put, List.getElem_toArray, List.getElem_cons_succ, List.getElem_cons_zero, List.setIfInBounds_toArray, List.set_cons_zero, List.set_cons_succ]
            obtain ⟨hP_0cacccc, hQ_0cacccc, hR_0cacccc, hB_0cacccc⟩ := id hHeld
            have hN_0cacccc := blk_next hN_0caccc hw_0cacccc
            have hM_0cacccc := blk_next hM_0caccc hw_0cacccc
            refine wpAnyH_ready (rs := [26]) (by kernel_rfl) (by simp) ?_
            refine AllReadyH.cons (o := _) rfl (fun K hK => ?_) (AllReadyH.nil)
            obtain ⟨sc0_0caccccc, sc1_0caccccc, sc2_0caccccc, sc3_0caccccc, sf0_0caccccc, sf1_0caccccc, sf2_0caccccc, sf3_0caccccc, sz_0caccccc⟩ := blk4 hN_0cacccc
            go_simp
            refine hK.out _ _ ⟨blk_store4 hP_0cacccc (Nat.ne_of_lt zNP_0ca) _ _ _ _, blk_store4 hQ_0cacccc (Nat.ne_of_lt zNQ_0ca) _ _ _ _, blk_store4 hR_0cacccc (Nat.ne_of_lt zNR_0ca) _ _ _ _, store4_bel hB_0cacccc zNB_0ca _ _ _ _⟩ (fun hHeld => ?_)
            clear hK K
            try simp only [Act.put, List.getElem_toArray, List.getElem_cons_succ, List.getElem_cons_zero, List.setIfInBounds_toArray, List.set_cons_zero, List.set_cons_succ]
            obtain ⟨hP_0caccccc, hQ_0caccccc, hR_0caccccc, hB_0caccccc⟩ := id hHeld
            have hN_0caccccc := blk4_put (y0 := .int .i64 (maxF (maxF (sN pe re a b, dN re) (sN pn rn c d, dN rn)) (0, ru)).1) (y1 := .int .i64 (maxF (maxF (sN pe re a b, dN re) (sN pn rn c d, dN rn)) (0, ru)).2) (y2 := .int .i64 (minF (minF (eN pe re a b, dN re) (eN pn rn c d, dN rn)) (h, ru)).1) (y3 := .int .i64 (minF (minF (eN pe re a b, dN re) (eN pn rn c d, dN rn)) (h, ru)).2) hN_0cacccc
            refine wpAnyH_done (by kernel_rfl) ?_ _
            obtain ⟨n0, n1, n2, n3, _, _, _, _, zn⟩ := blk4 hN_0caccccc
            go_wp2_with fail
            refine (befR_any _ _ _ _ _ FE FS).mono ?_; rintro E w9 ⟨rfl, hw9⟩
            go_wp2
            go_ret
            exact ⟨rfl, bel_next hB_0caccccc hw9⟩
        · go_simp
          refine hK.out _ _ ⟨blk_old hP_0 _, blk_old hQ_0 _, blk_old hR_0 _, hB_0.alloc (by have := hB_0.size; omega) _⟩ (fun hHeld => ?_)
          clear hK K
          try simp only [Act.put, List.getElem_toArray, List.getElem_cons_succ, List.getElem_cons_zero, List.setIfInBounds_toArray, List.set_cons_zero, List.set_cons_succ]
          obtain ⟨hP_0a, hQ_0a, hR_0a, hB_0a⟩ := id hHeld
          have hN_0a : (w3.drew.alloc (.cells #[.int .i64 0, .int .i64 0, .int .i64 0, .int .i64 0] 122)).heap[w3.heap.size]? = some (.cells #[.int .i64 0, .int .i64 0, .int .i64 0, .int .i64 0] 122) := by have := blk_new (w3.drew) (.cells #[.int .i64 0, .int .i64 0, .int .i64 0, .int .i64 0] 122); simpa using this
          have zNP_0a : w.heap.size < w3.heap.size := by have := blk_lt hP_0; simpa using this
          have zNQ_0a : w.heap.size + 1 < w3.heap.size := by have := blk_lt hQ_0; simpa using this
          have zNR_0a : w.heap.size + 1 + 1 < w3.heap.size := by have := blk_lt hR_0; simpa using this
          have zNB_0a : w.heap.size ≤ w3.heap.size := by have := hB_0.size; simpa using this
          refine wpAnyH_ready (rs := [8]) (by kernel_rfl) (by simp) ?_
          refine AllReadyH.cons (o := _) rfl (fun K hK => ?_) (AllReadyH.nil)
          go_simp
          (go_at_call 114; refine (within_any _ _ _ _ _ (by omega) (by omega) (by omega) (by omega) (by omega) (by omega) (by omega) (by omega)).mono ?_; rintro e x0ac ⟨rfl, hw_0ac⟩)
          refine hK.out _ _ ⟨blk_next hP_0a hw_0ac, blk_next hQ_0a hw_0ac, blk_next hR_0a hw_0ac, bel_next hB_0a hw_0ac⟩ (fun hHeld => ?_)
          clear hK K
          try simp only [Act.put, List.getElem_toArray, List.getElem_cons_succ, List.getElem_cons_zero, List.setIfInBounds_toArray, List.set_cons_zero, List.set_cons_succ]
          obtain ⟨hP_0ac, hQ_0ac, hR_0ac, hB_0ac⟩ := id hHeld
          have hN_0ac := blk_next hN_0a hw_0ac
          refine wpAnyH_ready (rs := [17]) (by kernel_rfl) (by simp) ?_
          refine AllReadyH.cons (o := _) rfl (fun K hK => ?_) (AllReadyH.nil)
          go_simp
          (go_at_call 114; refine (within_any _ _ _ _ _ (by omega) (by omega) (by omega) (by omega) (by omega) (by omega) (by omega) (by omega)).mono ?_; rintro e x0acc ⟨rfl, hw_0acc⟩)
          refine hK.out _ _ ⟨blk_next hP_0ac hw_0acc, blk_next hQ_0ac hw_0acc, blk_next hR_0ac hw_0acc, bel_next hB_0ac hw_0acc⟩ (fun hHeld => ?_)
          clear hK K
          try simp only [Act.put, List.getElem_toArray, List.getElem_cons_succ, List.getElem_cons_zero, List.setIfInBounds_toArray, List.set_cons_zero, List.set_cons_succ]
          obtain ⟨hP_0acc, hQ_0acc, hR_0acc, hB_0acc⟩ := id hHeld
          have hN_0acc := blk_next hN_0ac hw_0acc
          refine wpAnyH_ready (rs := [22]) (by kernel_rfl) (by simp) ?_
          refine AllReadyH.cons (o := _) rfl (fun K hK => ?_) (AllReadyH.nil)
          go_simp
          (go_at_call 114; refine (withinH_any _ _ _ r4 r5 q6 q7).mono ?_; rintro e x0accc ⟨rfl, hw_0accc⟩)
          refine hK.out _ _ ⟨blk_next hP_0acc hw_0accc, blk_next hQ_0acc hw_0accc, blk_next hR_0acc hw_0accc, bel_next hB_0acc hw_0accc⟩ (fun hHeld => ?_)
          clear hK K
          try simp only [Act.put, List.getElem_toArray, List.getElem_cons_succ, List.getElem_cons_zero, List.setIfInBounds_toArray, List.set_cons_zero, List.set_cons_succ]
          obtain ⟨hP_0accc, hQ_0accc, hR_0accc, hB_0accc⟩ := id hHeld
          have hN_0accc := blk_next hN_0acc hw_0accc
          refine wpAnyH_ready (rs := [23]) (by kernel_rfl) (by simp) ?_
          refine AllReadyH.cons (o := _) rfl (fun K hK => ?_) (AllReadyH.nil)
          go_simp
          refine hK.out _ _ ⟨blk_old hP_0accc _, blk_old hQ_0accc _, blk_old hR_0accc _, hB_0accc.alloc (by have := hB_0accc.size; omega) _⟩ (fun hHeld => ?_)
          clear hK K
          try simp only [Act.put, List.getElem_toArray, List.getElem_cons_succ, List.getElem_cons_zero, List.setIfInBounds_toArray, List.set_cons_zero, List.set_cons_succ]
          obtain ⟨hP_0acccc, hQ_0acccc, hR_0acccc, hB_0acccc⟩ := id hHeld
          have hN_0acccc := blk_old hN_0accc (.cells #[.int .i64 (sN pn rn c d), .int .i64 (dN rn), .int .i64 (eN pn rn c d), .int .i64 (dN rn), .int .i64 0, .int .i64 ru, .int .i64 h, .int .i64 ru] 122)
          have hM_0acccc : (x0accc.alloc (.cells #[.int .i64 (sN pn rn c d), .int .i64 (dN rn), .int .i64 (eN pn rn c d), .int .i64 (dN rn), .int .i64 0, .int .i64 ru, .int .i64 h, .int .i64 ru] 122)).heap[x0accc.heap.size]? = some (.cells #[.int .i64 (sN pn rn c d), .int .i64 (dN rn), .int .i64 (eN pn rn c d), .int .i64 (dN rn), .int .i64 0, .int .i64 ru, .int .i64 h, .int .i64 ru] 122) := by have := blk_new (x0accc) (.cells #[.int .i64 (sN pn rn c d), .int .i64 (dN rn), .int .i64 (eN pn rn c d), .int .i64 (dN rn), .int .i64 0, .int .i64 ru, .int .i64 h, .int .i64 ru] 122); simpa using this
          refine wpAnyH_ready (rs := [24]) (by kernel_rfl) (by simp) ?_
          refine AllReadyH.cons (o := _) rfl (fun K hK => ?_) (AllReadyH.nil)
          go_simp
          (go_at_call 113; refine (common_any (sN pe re a b, dN re) (eN pe re a b, dN re) (sN pn rn c d, dN rn) (eN pn rn c d, dN rn) (0, ru) (h, ru) _ _ _ F1 F2 F3 G1 G2 G3 hM_0acccc).mono ?_; rintro e x0accccc ⟨rfl, hw_0accccc⟩)
          refine hK.out _ _ ⟨blk_next hP_0acccc hw_0accccc, blk_next hQ_0acccc hw_0accccc, blk_next hR_0acccc hw_0accccc, bel_next hB_0acccc hw_0accccc⟩ (fun hHeld => ?_)
          clear hK K
          try simp only [Act.put, List.getElem_toArray, List.getElem_cons_succ, List.getElem_cons_zero, List.setIfInBounds_toArray, List.set_cons_zero, List.set_cons_succ]
          obtain ⟨hP_0accccc, hQ_0accccc, hR_0accccc, hB_0accccc⟩ := id hHeld
          have hN_0accccc := blk_next hN_0acccc hw_0accccc
          have hM_0accccc := blk_next hM_0acccc hw_0accccc
          refine wpAnyH_ready (rs := [26]) (by kernel_rfl) (by simp) ?_
          refine AllReadyH.cons (o := _) rfl (fun K hK => ?_) (AllReadyH.nil)
          obtain ⟨sc0_0acccccc, sc1_0acccccc, sc2_0acccccc, sc3_0acccccc, sf0_0acccccc, sf1_0acccccc, sf2_0acccccc, sf3_0acccccc, sz_0acccccc⟩ := blk4 hN_0accccc
          go_simp
          refine hK.out _ _ ⟨blk_store4 hP_0accccc (Nat.ne_of_lt zNP_0a) _ _ _ _, blk_store4 hQ_0accccc (Nat.ne_of_lt zNQ_0a) _ _ _ _, blk_store4 hR_0accccc (Nat.ne_of_lt zNR_0a) _ _ _ _, store4_bel hB_0accccc zNB_0a _ _ _ _⟩ (fun hHeld => ?_)
          clear hK K
          try simp only [Act.put, List.getElem_toArray, List.getElem_cons_succ, List.getElem_cons_zero, List.setIfInBounds_toArray, List.set_cons_zero, List.set_cons_succ]
          obtain ⟨hP_0acccccc, hQ_0acccccc, hR_0acccccc, hB_0acccccc⟩ := id hHeld
          have hN_0acccccc := blk4_put (y0 := .int .i64 (maxF (maxF (sN pe re a b, dN re) (sN pn rn c d, dN rn)) (0, ru)).1) (y1 := .int .i64 (maxF (maxF (sN pe re a b, dN re) (sN pn rn c d, dN rn)) (0, ru)).2) (y2 := .int .i64 (minF (minF (eN pe re a b, dN re) (eN pn rn c d, dN rn)) (h, ru)).1) (y3 := .int .i64 (minF (minF (eN pe re a b, dN re) (eN pn rn c d, dN rn)) (h, ru)).2) hN_0accccc
          refine wpAnyH_done (by kernel_rfl) ?_ _
          obtain ⟨n0, n1, n2, n3, _, _, _, _, zn⟩ := blk4 hN_0acccccc
          go_wp2_with fail
          refine (befR_any _ _ _ _ _ FE FS).mono ?_; rintro E w9 ⟨rfl, hw9⟩
          go_wp2
          go_ret
          exact ⟨rfl, bel_next hB_0acccccc hw9⟩
theorem iSh_is {pe pn a b c d h re rn ru : Int} {r : Bool} (w : World) (h_ : shB pe pn a b c d h re rn ru = r) : Calls Tryz.prog 61 #[.agg #[.int .i64 pe, .int .i64 pn], .agg #[.int .i64 a, .int .i64 b, .int .i64 c, .int .i64 d, .int .i64 h], .agg #[.int .i64 re, .int .i64 rn, .int .i64 ru]] w fun E w' => E = .returned (.bool r) ∧ Below w.heap.size w w' := by subst h_; exact iSh_any pe pn a b c d h re rn ru w
end Go.Proofs.YtbklgpghonigjaaGreat
