/- FnExactPlatePut: whatever the input, the law returns true, and its arguments read as they did. No conditions beyond those of the statement's row. -/
import Derived.Test.YtjlaefapcfppeaaIp
namespace Go.Proofs.Ytjlaefapcfppeaa.fnExactPlatePut
open Go.Proofs.Ytjlaefapcfppeaa
open Go.ChangeShapes Go.WideShapes Go.ChangeAt Go.RowKit Go.Joins
set_option linter.unusedVariables false
set_option linter.unusedSimpArgs false
set_option linter.unnecessarySimpa false

theorem own : ownKnob Try.prog.godebug = none := by kernel_rfl
theorem laidOut : laidOutB Try.prog = true := by kernel_rfl

set_option maxRecDepth 100000 in
set_option maxHeartbeats 4000000 in
theorem walk (w : World) (A0 : Option Addr) (cap0 : Nat) (xs0 : List VMark) (w0 : SRow encMark w A0 xs0) (l0 : xs0.length ≤ maxLen) (q0 : ∀ v ∈ xs0, Wf v.1 ∧ Wf v.2.1 ∧ v.2.2.size ≤ maxLen) (a1_0 : Int) (a1_1 : Int) (a1_2 : ByteArray) (q1 : Wf a1_0 ∧ Wf a1_1 ∧ a1_2.size ≤ maxLen) :
    Calls Try.prog 3 #[.slice A0 xs0.length cap0, .agg #[.int .i64 a1_0, .int .i64 a1_1, .string a1_2]] w fun e w' => e = .returned (.bool true) ∧ Below w.heap.size w w' := by
  have hq : ∀ v ∈ xs0, v.2.2.size ≤ maxLen := fun v hv => (q0 v hv).2.2
  have HQ := Lib.hid hq
  have HQ0 := Lib.hid q0
  clear hq q0
  have ht : a1_2.size ≤ maxLen := q1.2.2
  have HT := Lib.hid ht
  clear ht q1
  go_enter Try.func3, Try.ntmps3
  go_wp2_with fail
  refine (szMarkS_any A0 cap0 xs0 1048576 _ rfl (w0.next (bel1 _ _)) HQ0.out (by omega) (by omega) l0).mono ?_; rintro e' w1 ⟨r, rfl, hL, hw1⟩
  obtain ⟨hP1, hB1⟩ := ownb hw1
  rcases hL with rfl | ⟨r0, r1, hn⟩
  · go_wp2
    go_ret
    exact ⟨rfl, hB1⟩
  · have hr : ¬ r < 0 := by omega
    have hn2 : xs0.length ≤ 1048576 := by omega
    obtain ⟨c0, c1, c2, _, _, _, zP⟩ := blk3 hP1
    go_wp2_with fail
    refine (szMark_any _ _ _ r _ r0 (by omega) HT.out).mono ?_; rintro e' w2 ⟨r2, rfl, hL, hw2⟩
    clear c0 c1 c2
    have hP2 := blk_next hP1 hw2
    have hB2 := bel_next hB1 hw2
    rcases hL with rfl | ⟨s0, s1, hn⟩
    · go_wp2
      go_ret
      exact ⟨rfl, hB2⟩
    · have hr2 : ¬ r2 < 0 := by omega
      clear hn
      have hA2 := w0.next hB2
      go_wp2_with fail
      refine wp_region_held_drew (S := (fun w' => w'.heap[w.heap.size]? = some (.cells #[.int .i64 a1_0, .int .i64 a1_1, .string a1_2] 26) ∧ SRow encMark w' A0 xs0 ∧ Below w.heap.size w w')) (by kernel_rfl) ⟨hP2, hA2, hB2.drew⟩ (fun hHeld => ?_)
      obtain ⟨hP_0, hA_0, hB_0⟩ := id hHeld
      refine wpAnyH_take (i := 0) (oi := _) (v := ?_) rfl (by kernel_rfl) (by kernel_rfl) (by kernel_rfl) (fun _ _ _ h => h) (Or.inl ⟨by rfl, ?_⟩) (by assumption) ?_
      (rotate_left); (focus (intro wv hSw; (obtain ⟨qP, qA, qB⟩ := hSw);  go_simp; (try with_reducible rfl)))
      try simp only [Act.put, List.getElem_toArray, List.getElem_cons_succ, List.getElem_cons_zero, List.setIfInBounds_toArray, List.set_cons_zero, List.set_cons_succ]
      refine wpAnyH_take (i := 2) (oi := _) (v := ?_) rfl (by kernel_rfl) (by kernel_rfl) (by kernel_rfl) (fun _ _ _ h => h) (Or.inl ⟨by rfl, ?_⟩) (by assumption) ?_
      (rotate_left); (focus (intro wv hSw; (obtain ⟨qP, qA, qB⟩ := hSw); obtain ⟨u0, u1, u2, _, _, _, _⟩ := blk3 qP; go_simp; (try with_reducible rfl)))
      try simp only [Act.put, List.getElem_toArray, List.getElem_cons_succ, List.getElem_cons_zero, List.setIfInBounds_toArray, List.set_cons_zero, List.set_cons_succ]
      refine wpAnyH_ready (rs := [1]) (by kernel_rfl) (by simp) ?_
      refine AllReadyH.cons (o := _) rfl (fun K hK => ?_) AllReadyH.nil
      go_simp
      (go_at_call 9; refine (toMarkS_any A0 cap0 xs0 _ hA_0 (by omega)).mono ?_; rintro e x0c ⟨gC, rfl, hgC, hC_0c, hw_0c⟩)
      refine hK.out _ _ ⟨blk_next hP_0 hw_0c, hA_0.next hw_0c, bel_next hB_0 hw_0c⟩ (fun hHeld => ?_)
      clear hK K
      try simp only [Act.put, List.getElem_toArray, List.getElem_cons_succ, List.getElem_cons_zero, List.setIfInBounds_toArray, List.set_cons_zero, List.set_cons_succ]
      obtain ⟨hP_0c, hA_0c, hB_0c⟩ := id hHeld
      refine wpAnyH_ready (rs := [3]) (by kernel_rfl) (by simp) ?_
      refine AllReadyH.cons (o := _) rfl (fun K hK => ?_) AllReadyH.nil
      go_simp
      (go_at_call 10; refine (toMark_any _ _ _ _).mono ?_; rintro e x0cc ⟨rfl, hw_0cc⟩)
      refine hK.out _ _ ⟨blk_next hP_0c hw_0cc, hA_0c.next hw_0cc, bel_next hB_0c hw_0cc⟩ (fun hHeld => ?_)
      clear hK K
      try simp only [Act.put, List.getElem_toArray, List.getElem_cons_succ, List.getElem_cons_zero, List.setIfInBounds_toArray, List.set_cons_zero, List.set_cons_succ]
      obtain ⟨hP_0cc, hA_0cc, hB_0cc⟩ := id hHeld
      have hC_0cc := hC_0c.next hw_0cc
      refine wpAnyH_ready (rs := [4]) (by kernel_rfl) (by simp) ?_
      refine AllReadyH.cons (o := _) rfl (fun K hK => ?_) AllReadyH.nil
      go_simp
      (go_at_call 8; refine (sPP_any _ _ xs0 _ _ _ _ rfl ⟨_, _, rfl⟩ hC_0cc.row HQ.out HT.out (by omega)).mono ?_; rintro e x0ccc ⟨Ls, oks, As, cs, rfl, hRs, hS_0ccc, hw_0ccc⟩)
      refine hK.out _ _ ⟨blk_next hP_0cc hw_0ccc, hA_0cc.next hw_0ccc, bel_next hB_0cc hw_0ccc⟩ (fun hHeld => ?_)
      clear hK K
      try simp only [Act.put, List.getElem_toArray, List.getElem_cons_succ, List.getElem_cons_zero, List.setIfInBounds_toArray, List.set_cons_zero, List.set_cons_succ]
      obtain ⟨hP_0ccc, hA_0ccc, hB_0ccc⟩ := id hHeld
      refine wpAnyH_take (i := 5) (oi := _) (v := ?_) rfl (by kernel_rfl) (by kernel_rfl) (by kernel_rfl) (fun _ _ _ h => h) (Or.inl ⟨by rfl, ?_⟩) (by assumption) ?_
      (rotate_left); (focus (intro wv hSw; (obtain ⟨qP, qA, qB⟩ := hSw);  go_simp; (try with_reducible rfl)))
      try simp only [Act.put, List.getElem_toArray, List.getElem_cons_succ, List.getElem_cons_zero, List.setIfInBounds_toArray, List.set_cons_zero, List.set_cons_succ]
      refine wpAnyH_take (i := 6) (oi := _) (v := ?_) rfl (by kernel_rfl) (by kernel_rfl) (by kernel_rfl) (fun _ _ _ h => h) (Or.inl ⟨by rfl, ?_⟩) (by assumption) ?_
      (rotate_left); (focus (intro wv hSw; (obtain ⟨qP, qA, qB⟩ := hSw);  go_simp; (try with_reducible rfl)))
      try simp only [Act.put, List.getElem_toArray, List.getElem_cons_succ, List.getElem_cons_zero, List.setIfInBounds_toArray, List.set_cons_zero, List.set_cons_succ]
      refine wpAnyH_take (i := 7) (oi := _) (v := ?_) rfl (by kernel_rfl) (by kernel_rfl) (by kernel_rfl) (fun _ _ _ h => h) (Or.inl ⟨by rfl, ?_⟩) (by assumption) ?_
      (rotate_left); (focus (intro wv hSw; (obtain ⟨qP, qA, qB⟩ := hSw);  go_simp; (try with_reducible rfl)))
      try simp only [Act.put, List.getElem_toArray, List.getElem_cons_succ, List.getElem_cons_zero, List.setIfInBounds_toArray, List.set_cons_zero, List.set_cons_succ]
      refine wpAnyH_take (i := 8) (oi := _) (v := ?_) rfl (by kernel_rfl) (by kernel_rfl) (by kernel_rfl) (fun _ _ _ h => h) (Or.inl ⟨by rfl, ?_⟩) (by assumption) ?_
      (rotate_left); (focus (intro wv hSw; (obtain ⟨qP, qA, qB⟩ := hSw);  go_simp; (try with_reducible rfl)))
      try simp only [Act.put, List.getElem_toArray, List.getElem_cons_succ, List.getElem_cons_zero, List.setIfInBounds_toArray, List.set_cons_zero, List.set_cons_succ]
      refine wpAnyH_take (i := 9) (oi := _) (v := ?_) rfl (by kernel_rfl) (by kernel_rfl) (by kernel_rfl) (fun _ _ _ h => h) (Or.inl ⟨by rfl, ?_⟩) (by assumption) ?_
      (rotate_left); (focus (intro wv hSw; (obtain ⟨qP, qA, qB⟩ := hSw);  go_simp; (try with_reducible rfl)))
      try simp only [Act.put, List.getElem_toArray, List.getElem_cons_succ, List.getElem_cons_zero, List.setIfInBounds_toArray, List.set_cons_zero, List.set_cons_succ]
      refine wpAnyH_done (by kernel_rfl) ?_ _
      have hS3 := hS_0ccc.mono hB_0cc.size
      obtain ⟨nS, hnS⟩ : ∃ nS, nS = x0ccc.heap.size := ⟨_, rfl⟩
      have hSlt : ∀ g, As = some ⟨g, 0, none⟩ → g < nS := fun g hg => by rcases hS3.form with ⟨e, _⟩ | ⟨g1, e, _, h⟩; rw [e] at hg; cases hg; rw [e] at hg; cases hg; rw [hnS]; exact h
      have hzS : nS ≤ x0ccc.heap.size := by rw [hnS]; exact Nat.le_refl _
      have hlen : Ls.length ≤ 1048577 := by rcases hRs with ⟨_, rfl, _⟩ | ⟨_, _, rfl, _⟩ | ⟨_, _, rfl, _⟩; simp; rw [putL_is]; simp; omega; omega
      have HRS := Lib.hid hRs
      obtain ⟨m, hm⟩ : ∃ m, Ls.length = m := ⟨_, rfl⟩
      rw [hm] at hlen
      have HM := Lib.hid hm
      clear hm hRs
      rw [HM.out]
      have hP3 := hP_0ccc
      have hA3 := hA_0ccc
      have hB3 := hB_0ccc
      go_wp2_with fail
      refine (toMarkS_any A0 cap0 xs0 _ hA3 (by omega)).mono ?_; rintro e' w4 ⟨gD, rfl, hgD, hD4, hw4⟩
      have hP4 := blk_next hP3 hw4
      have hA4 := hA3.next hw4
      have hS4 := hS3.next hw4
      have hB4 := bel_next hB3 hw4
      have hz4 := hw4.size
      have hgP : w.heap.size < gD := Nat.lt_of_lt_of_le (blk_lt hP3) hgD
      have hDlt := hD4.lt
      have zB0 := hB3.size
      have hzx : nS ≤ w4.heap.size := Nat.le_trans hzS hz4
      obtain ⟨cP4_0, cP4_1, cP4_2, fP4_0, fP4_1, fP4_2, zP4⟩ := blk3 hP4
      go_wp2_with fail
      refine (toMark_any _ _ _ _).mono ?_; rintro e' w5 ⟨rfl, hw5⟩
      have hP5 := blk_next hP4 hw5
      have hA5 := hA4.next hw5
      have hS5 := hS4.next hw5
      have hD5 := hD4.next hw5
      have hB5 := bel_next hB4 hw5
      have hz5 := hw5.size
      have hzy : nS ≤ w5.heap.size := Nat.le_trans hzx hz5
      go_wp2_with fail
      refine (iPP_any _ _ _ xs0 _ _ _ _ rfl hD5.row HQ.out HT.out (by omega)).mono ?_; rintro e' w6 ⟨Li, oki, Ai, ci, rfl, hRi, hI6, hw6⟩
      have hP6 := blk_next hP5 hw6
      have hA6 := hA5.next hw6
      have hS6 := hS5.next hw6
      have hD6 := hD5.next hw6
      have hB6 := bel_next hB5 hw6
      obtain ⟨rfl, rfl⟩ := HRS.out.unique hRi
      clear hRi
      rw [HM.out]
      have hz6 := hw6.size
      have hIge : ∀ g, Ai = some ⟨g, 0, none⟩ → w5.heap.size ≤ g := fun g hg => by rcases hI6.form with ⟨e, _⟩ | ⟨g1, e, h, _⟩; rw [e] at hg; cases hg; rw [e] at hg; cases hg; exact h
      go_wp2_with fail
      refine (eqMarkS_same _ _ _ _ Ls HM.out hI6.row hS6.row (by omega)).mono ?_; rintro e' w7 ⟨rfl, hw7⟩
      have hP7 := blk_next hP6 hw7
      have hA7 := hA6.next hw7
      have hS7 := hS6.next hw7
      have hD7 := hD6.next hw7
      have hI7 := hI6.next hw7
      have hB7 := bel_next hB6 hw7
      have hz7 := hw7.size
      go_wp2_with fail
      refine (toMarkS_any A0 cap0 xs0 _ hA7 (by omega)).mono ?_; rintro e' w8 ⟨gE, rfl, hgE, hE8, hw8⟩
      have hP8 := blk_next hP7 hw8
      have hA8 := hA7.next hw8
      have hS8 := hS7.next hw8
      have hD8 := hD7.next hw8
      have hI8 := hI7.next hw8
      have hB8 := bel_next hB7 hw8
      have hz8 := hw8.size
      go_wp2_with fail
      refine (eqMarkS_same _ _ _ _ xs0 rfl hD8.row hE8.row (by omega)).mono ?_; rintro e' w9 ⟨rfl, hw9⟩
      have hP9 := blk_next hP8 hw9
      have hA9 := hA8.next hw9
      have hS9 := hS8.next hw9
      have hD9 := hD8.next hw9
      have hI9 := hI8.next hw9
      have hE9 := hE8.next hw9
      have hB9 := bel_next hB8 hw9
      have hz9 := hw9.size
      have zB4 := hB4.size
      go_wp2_with fail
      refine (markMarkS_any w.heap.size _ _ xs0 1 rfl (SOwn.of_blk hD9 (by omega) rfl l0) (by omega) (by omega) (by omega)).mono ?_; rintro e' wM ⟨rfl, hDM, hG⟩
      have hB10 : Below w.heap.size w wM := hB9.grown hG hB9.size (fun j hj => by simp [Value.ownBlock] at hj; omega)
      have hI10 := hI9.grown_far hG (fun g hg e => by have := hIge g hg; simp [Value.ownBlock] at e; omega)
      have hS10 := hS9.grown_far hG (fun g hg e => by have := hSlt g hg; simp [Value.ownBlock] at e; omega)
      have hP10 := blk_grown hP9 hG (fun e => by simp [Value.ownBlock] at e; omega)
      have hA10 := w0.next hB10
      have hk0 : ¬ (1 + 3 * (xs0.length : Int)) < 0 := by omega
      clear hG hDM
      go_wp2_with fail
      refine (eqMarkS_same _ _ _ _ Ls HM.out hI10.row hS10.row (by omega)).mono ?_; rintro e' w11 ⟨rfl, hw11⟩
      have hP11 := blk_next hP10 hw11
      have hA11 := hA10.next hw11
      have hS11 := hS10.next hw11
      have hI11 := hI10.next hw11
      have hB11 := bel_next hB10 hw11
      go_wp2_with fail
      refine (markMarkS_any w.heap.size _ _ Ls 1 HM.out (hI11.mono (by omega)) (by omega) (by omega) (by omega)).mono ?_; rintro e' wN ⟨rfl, hIN, hG⟩
      have hB12 : Below w.heap.size w wN := SOwn.below_grown (hI11.mono (by omega)) hB11 hG
      have hS12 := hS11.grown_far hG (fun g hg e => by have := hSlt g hg; rcases hI11.form with ⟨e2, _⟩ | ⟨g1, e2, h, _⟩; rw [e2] at e; simp [Value.ownBlock] at e; rw [e2] at e; simp [Value.ownBlock] at e; have := hIge g1 e2; omega)
      have hP12 := blk_grown hP11 hG (SOwn.ne_low hI11 (n := m) (by omega))
      have hI12 := hIN
      have hA12 := w0.next hB12
      clear hG
      go_wp2_with fail
      refine (heldMarkS_any Ai ci 1 (m := m) hI12.row (by omega) (by omega) (by omega)).mono ?_; rintro e' w13 ⟨rfl, hw13⟩
      have hP13 := blk_next hP12 hw13
      have hA13 := hA12.next hw13
      have hS13 := hS12.next hw13
      have hI13 := hI12.next hw13
      have hB13 := bel_next hB12 hw13
      have hk1 : ¬ (1 + 3 * (m : Int)) < 0 := by omega
      go_wp2_with fail
      have hS_0 := hS13.drew
      have hI_0 := hI13.drew
      refine wp_region_held_drew (S := (fun w' => w'.heap[w.heap.size]? = some (.cells #[.int .i64 a1_0, .int .i64 a1_1, .string a1_2] 26) ∧ SRow encMark w' A0 xs0 ∧ Below w.heap.size w w')) (by kernel_rfl) ⟨hP13, hA13, hB13.drew⟩ (fun hHeld => ?_)
      obtain ⟨hP_0, hA_0, hB_0⟩ := id hHeld
      refine wpAnyH_take (i := 0) (oi := _) (v := ?_) rfl (by kernel_rfl) (by kernel_rfl) (by kernel_rfl) (fun _ _ _ h => h) (Or.inl ⟨by rfl, ?_⟩) (by assumption) ?_
      (rotate_left); (focus (intro wv hSw; (obtain ⟨qP, qA, qB⟩ := hSw);  go_simp; (try with_reducible rfl)))
      try simp only [Act.put, List.getElem_toArray, List.getElem_cons_succ, List.getElem_cons_zero, List.setIfInBounds_toArray, List.set_cons_zero, List.set_cons_succ]
      refine wpAnyH_take (i := 2) (oi := _) (v := ?_) rfl (by kernel_rfl) (by kernel_rfl) (by kernel_rfl) (fun _ _ _ h => h) (Or.inl ⟨by rfl, ?_⟩) (by assumption) ?_
      (rotate_left); (focus (intro wv hSw; (obtain ⟨qP, qA, qB⟩ := hSw); obtain ⟨u0, u1, u2, _, _, _, _⟩ := blk3 qP; go_simp; (try with_reducible rfl)))
      try simp only [Act.put, List.getElem_toArray, List.getElem_cons_succ, List.getElem_cons_zero, List.setIfInBounds_toArray, List.set_cons_zero, List.set_cons_succ]
      refine wpAnyH_ready (rs := [1]) (by kernel_rfl) (by simp) ?_
      refine AllReadyH.cons (o := _) rfl (fun K hK => ?_) AllReadyH.nil
      go_simp
      (go_at_call 9; refine (toMarkS_any A0 cap0 xs0 _ hA_0 (by omega)).mono ?_; rintro e x0c ⟨gC, rfl, hgC, hC_0c, hw_0c⟩)
      refine hK.out _ _ ⟨blk_next hP_0 hw_0c, hA_0.next hw_0c, bel_next hB_0 hw_0c⟩ (fun hHeld => ?_)
      clear hK K
      try simp only [Act.put, List.getElem_toArray, List.getElem_cons_succ, List.getElem_cons_zero, List.setIfInBounds_toArray, List.set_cons_zero, List.set_cons_succ]
      obtain ⟨hP_0c, hA_0c, hB_0c⟩ := id hHeld
      have hS_0c := hS_0.next hw_0c
      have hI_0c := hI_0.next hw_0c
      refine wpAnyH_ready (rs := [3]) (by kernel_rfl) (by simp) ?_
      refine AllReadyH.cons (o := _) rfl (fun K hK => ?_) AllReadyH.nil
      go_simp
      (go_at_call 10; refine (toMark_any _ _ _ _).mono ?_; rintro e x0cc ⟨rfl, hw_0cc⟩)
      refine hK.out _ _ ⟨blk_next hP_0c hw_0cc, hA_0c.next hw_0cc, bel_next hB_0c hw_0cc⟩ (fun hHeld => ?_)
      clear hK K
      try simp only [Act.put, List.getElem_toArray, List.getElem_cons_succ, List.getElem_cons_zero, List.setIfInBounds_toArray, List.set_cons_zero, List.set_cons_succ]
      obtain ⟨hP_0cc, hA_0cc, hB_0cc⟩ := id hHeld
      have hC_0cc := hC_0c.next hw_0cc
      have hS_0cc := hS_0c.next hw_0cc
      have hI_0cc := hI_0c.next hw_0cc
      refine wpAnyH_ready (rs := [4]) (by kernel_rfl) (by simp) ?_
      refine AllReadyH.cons (o := _) rfl (fun K hK => ?_) AllReadyH.nil
      go_simp
      (go_at_call 11; refine (iPP_any _ _ _ xs0 _ _ _ _ rfl hC_0cc.row HQ.out HT.out (by omega)).mono ?_; rintro e x0ccc ⟨Lh, okh, Ah, ch, rfl, hRh, hH_0ccc, hw_0ccc⟩)
      refine hK.out _ _ ⟨blk_next hP_0cc hw_0ccc, hA_0cc.next hw_0ccc, bel_next hB_0cc hw_0ccc⟩ (fun hHeld => ?_)
      clear hK K
      try simp only [Act.put, List.getElem_toArray, List.getElem_cons_succ, List.getElem_cons_zero, List.setIfInBounds_toArray, List.set_cons_zero, List.set_cons_succ]
      obtain ⟨hP_0ccc, hA_0ccc, hB_0ccc⟩ := id hHeld
      have hS_0ccc := hS_0cc.next hw_0ccc
      have hI_0ccc := hI_0cc.next hw_0ccc
      obtain ⟨rfl, rfl⟩ := HRS.out.unique hRh
      clear hRh
      refine wpAnyH_take (i := 5) (oi := _) (v := ?_) rfl (by kernel_rfl) (by kernel_rfl) (by kernel_rfl) (fun _ _ _ h => h) (Or.inl ⟨by rfl, ?_⟩) (by assumption) ?_
      (rotate_left); (focus (intro wv hSw; (obtain ⟨qP, qA, qB⟩ := hSw);  go_simp; (try with_reducible rfl)))
      try simp only [Act.put, List.getElem_toArray, List.getElem_cons_succ, List.getElem_cons_zero, List.setIfInBounds_toArray, List.set_cons_zero, List.set_cons_succ]
      refine wpAnyH_take (i := 6) (oi := _) (v := ?_) rfl (by kernel_rfl) (by kernel_rfl) (by kernel_rfl) (fun _ _ _ h => h) (Or.inl ⟨by rfl, ?_⟩) (by assumption) ?_
      (rotate_left); (focus (intro wv hSw; (obtain ⟨qP, qA, qB⟩ := hSw);  go_simp; (try with_reducible rfl)))
      try simp only [Act.put, List.getElem_toArray, List.getElem_cons_succ, List.getElem_cons_zero, List.setIfInBounds_toArray, List.set_cons_zero, List.set_cons_succ]
      refine wpAnyH_take (i := 7) (oi := _) (v := ?_) rfl (by kernel_rfl) (by kernel_rfl) (by kernel_rfl) (fun _ _ _ h => h) (Or.inl ⟨by rfl, ?_⟩) (by assumption) ?_
      (rotate_left); (focus (intro wv hSw; (obtain ⟨qP, qA, qB⟩ := hSw);  go_simp; (try with_reducible rfl)))
      try simp only [Act.put, List.getElem_toArray, List.getElem_cons_succ, List.getElem_cons_zero, List.setIfInBounds_toArray, List.set_cons_zero, List.set_cons_succ]
      refine wpAnyH_take (i := 8) (oi := _) (v := ?_) rfl (by kernel_rfl) (by kernel_rfl) (by kernel_rfl) (fun _ _ _ h => h) (Or.inl ⟨by rfl, ?_⟩) (by assumption) ?_
      (rotate_left); (focus (intro wv hSw; (obtain ⟨qP, qA, qB⟩ := hSw);  go_simp; (try with_reducible rfl)))
      try simp only [Act.put, List.getElem_toArray, List.getElem_cons_succ, List.getElem_cons_zero, List.setIfInBounds_toArray, List.set_cons_zero, List.set_cons_succ]
      refine wpAnyH_take (i := 9) (oi := _) (v := ?_) rfl (by kernel_rfl) (by kernel_rfl) (by kernel_rfl) (fun _ _ _ h => h) (Or.inl ⟨by rfl, ?_⟩) (by assumption) ?_
      (rotate_left); (focus (intro wv hSw; (obtain ⟨qP, qA, qB⟩ := hSw);  go_simp; (try with_reducible rfl)))
      try simp only [Act.put, List.getElem_toArray, List.getElem_cons_succ, List.getElem_cons_zero, List.setIfInBounds_toArray, List.set_cons_zero, List.set_cons_succ]
      refine wpAnyH_done (by kernel_rfl) ?_ _
      rw [HM.out]
      have hH14 := hH_0ccc
      have hS14 := hS_0ccc
      have hI14 := hI_0ccc
      have hB14 := hB_0ccc
      go_wp2_with fail
      refine (eqMarkS_same _ _ _ _ Ls HM.out hH14.row hS14.row (by omega)).mono ?_; rintro e' w15 ⟨rfl, hw15⟩
      have hS15 := hS14.next hw15
      have hI15 := hI14.next hw15
      have hH15 := hH14.next hw15
      have hB15 := bel_next hB14 hw15
      go_wp2_with fail
      refine (heldMarkS_any Ai ci 1 (m := m) hI15.row (by omega) (by omega) (by omega)).mono ?_; rintro e' w16 ⟨rfl, hw16⟩
      have hS16 := hS15.next hw16
      have hI16 := hI15.next hw16
      have hH16 := hH15.next hw16
      have hB16 := bel_next hB15 hw16
      go_wp2
      go_ret
      exact ⟨rfl, by first | exact hB16 | exact hB16.drew⟩

set_option maxRecDepth 100000 in
theorem lifted (os : Os) (started : os.Started) (H : Type) (enc : TypeId × Value → H) :
    ReturnsInHanded {} Try.checked os 3 .any (Rows.fnExactPlatePutSpec.pre6 enc Try.prog Try.f3 Rows.fnExactPlatePutRow.domain false) (Rows.fnExactPlatePutSpec.post enc Try.prog Try.f3 false true false false) := by
  refine returnsInHanded_of_change (C := Try.checked) own started (by kernel_rfl) Try.func3
    (ChangeSpec.witness6 (enc := enc) (C := Try.checked) false ⟨#[], #[.slice none 0 0, .agg #[.int .i64 0, .int .i64 0, .string ByteArray.empty]], []⟩ 8 (by kernel_rfl) (by kernel_rfl) (by kernel_rfl) (by kernel_rfl)) ?_
  intro W base args ds gs before hval0 hW hcnd _
  have hval : ∀ (j : Nat) t v, Try.f3.params[j]? = some t → args[j]? = some v → Value.okWide Try.prog W .any base t v := hval0
  have hW' := hW
  obtain ⟨p, q, hA0, hV, rfl, hfz, hnd⟩ := hW
  have hA : DataW.TrodAll enc Try.prog W 0 (fun _ => true) true Try.f3.params.toList args.toList ds p := hA0
  rw [Try.params3] at hA hval
  obtain ⟨v0, vs0, d0, ds0, p0, q0, hargs, rfl, rfl, h0, r0⟩ := trodAll_cons hA
  obtain ⟨v1, vs1, d1, ds1, p1, q1, rfl, rfl, rfl, h1, r1⟩ := trodAll_cons r0
  obtain ⟨rfl, rfl, rfl⟩ := trodAll_nil r1
  obtain rfl : args = #[v0, v1] := by cases args; simp_all
  obtain ⟨rfl, rfl⟩ := trodVars_none hV
  have k0 := h0
  have lt0 : ∀ x ∈ p0, x.block < W.heap.size := by obtain ⟨m, hm⟩ := k0; exact DataW.trod_lt m _ _ _ hm
  have k1 := h1
  have lt1 : ∀ x ∈ p1, x.block < W.heap.size := by obtain ⟨m, hm⟩ := k1; exact DataW.trod_lt m _ _ _ hm
  obtain ⟨A0, len0, cap0, rfl⟩ := okWide_slice Try.underlying22 (hval 0 22 v0 rfl rfl)
  obtain ⟨xs0, w0, l0, q0, hlen0⟩ : ∃ xs, SRow encMark W A0 xs ∧ xs.length ≤ maxLen ∧ (∀ v ∈ xs, Wf v.1 ∧ Wf v.2.1 ∧ v.2.2.size ≤ maxLen) ∧ xs.length = len0 := by
    obtain ⟨fuel, hf⟩ := h0
    obtain ⟨A, cap, xs, hcs, hl, hr, hq⟩ := openMarkS hf
    simp [Value.cells] at hcs
    obtain ⟨rfl, hn, rfl⟩ := hcs
    exact ⟨xs, hr, hl, hq, hn.symm⟩
  subst hlen0
  obtain ⟨⟨a1_0, a1_1, a1_2⟩, rfl, q1⟩ := openMark (hval 1 26 v1 rfl rfl) h1
  clear hA0 hval0
  refine (walk W A0 cap0 xs0 w0 l0 q0 a1_0 a1_1 a1_2 q1).mono fun e W' ⟨he, bel⟩ => ?_
  subst he
  exact ⟨_, rfl, _, _, _, [], _, [], hW', trodAll_mk1 (shut_bool Try.underlying4 _), (trodAll_cons_mk (Below.trod laidOut (by kernel_rfl) (of_decide_eq_true (by kernel_rfl)) k0 bel lt0) (trodAll_cons_mk (Below.trod laidOut (by kernel_rfl) (of_decide_eq_true (by kernel_rfl)) k1 bel lt1) trodAll_mk0)), rfl, bel.frame _, fun h => by cases h⟩

theorem over : Rows.fnExactPlatePutRow.holds Try.pinned (OpenSpec.ofChange Rows.fnExactPlatePutSpec) :=
  OpenClaim.holds_of_wide 3 Try.f3 rfl rfl rfl rfl rfl rfl rfl ⟨rfl, rfl, rfl, rfl, rfl⟩ rfl rfl rfl rfl rfl (by kernel_rfl) Try.func3 (by kernel_rfl)
    (of_decide_eq_true (by kernel_rfl)) (by unfold Func.isWrapper; first | (rw [if_pos (by decide +kernel)]; kernel_rfl) | (rw [if_neg (by decide +kernel)]; exact ⟨rfl, rfl⟩))
    (fun os started H enc _ => lifted os started H enc)

/-- The statement. -/
theorem proved : Rows.FnExactPlatePutSaid :=
  over
#print axioms proved
end Go.Proofs.Ytjlaefapcfppeaa.fnExactPlatePut
