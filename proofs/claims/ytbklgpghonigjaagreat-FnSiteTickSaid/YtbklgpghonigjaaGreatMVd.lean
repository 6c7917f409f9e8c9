/- Vd: texts joined. -/
import Derived.Test.YtbklgpghonigjaaGreatMQI
namespace Go.Proofs.YtbklgpghonigjaaGreat
open Go Go.ChangeShapes Go.WideShapes Go.ChangeAt Go.RowKit
set_option linter.unusedSimpArgs false
set_option linter.unusedVariables false
set_option maxRecDepth 100000 in
set_option maxHeartbeats 4000000 in
theorem sMeets_any (pe pn a b c d h re rn ru : Int) (w : World) (hp : plB pe pn = true) (hb : blB a b c d h = true) (hr : ryB re rn ru = true) :
    Calls Tryz.prog 132 #[.agg #[.int .i64 pe, .int .i64 pn], .agg #[.int .i64 a, .int .i64 b, .int .i64 c, .int .i64 d, .int .i64 h], .agg #[.int .i64 re, .int .i64 rn, .int .i64 ru]] w fun E w' => E = .returned (.bool (decide (PrM pe pn a b c d h re rn ru))) ∧ Below w.heap.size w w' := by
  have hpe := plB_iff.1 hp
  have hbl := blB_iff.1 hb
  have hry := ryB_iff.1 hr
  obtain ⟨p0, p1, p2, p3⟩ := hpe
  obtain ⟨q0, q1, q2, q3, q4, q5, q6, q7⟩ := hbl
  obtain ⟨r0, r1, r2, r3, r4, r5⟩ := hry
  clear hp hb hr
  obtain ⟨i0, hi0, hz0, hz1, hz2⟩ := info_parts infoI
  have HI := Lib.hid (And.intro hi0 (And.intro hz0 (And.intro hz1 hz2)))
  clear hi0 hz0 hz1 hz2
  go_enter Tryz.func132, Tryz.ntmps132
  go_wp2_with fail
  go_loopw [7, 8, 9, 10] (fun s7 s8 s9 s10 wr => ∃ k n ga ca gb cb gc cc : Nat, k ≤ 2 ∧ 1 ≤ n ∧ n ≤ k + 1 ∧ Hid ((triAt pe pn a b c d h re rn ru k).length = n) ∧ Hid ((1 ≤ k → ok5 pe re a b = true) ∧ (2 ≤ k → ok5 pn rn c d = true)) ∧ s10 = .int .i64 k ∧ s7 = .slice (some ⟨ga, 0, none⟩) n ca ∧ s8 = .slice (some ⟨gb, 0, none⟩) n cb ∧ s9 = .slice (some ⟨gc, 0, none⟩) n cc ∧ St w (.cells #[.int .i64 pe, .int .i64 pn] 25) (.cells #[.int .i64 a, .int .i64 b, .int .i64 c, .int .i64 d, .int .i64 h] 40) (.cells #[.int .i64 re, .int .i64 rn, .int .i64 ru] 43) (triAt pe pn a b c d h re rn ru k) ga ca gb cb gc cc wr) (fun _ _ _ s10 _ => (2 - intOf s10).toNat)
  case atStart =>
    refine ⟨0, 1, _, _, _, _, _, _, by omega, by omega, by omega, Lib.hid rfl, Lib.hid ⟨by omega, by omega⟩, rfl, rfl, rfl, rfl, ?_⟩
    exact ⟨blk_old (blk_old (blk_old (blk_old (blk_old (blk_new w _) _) _) _) _) _, blk_old (blk_old (blk_old (blk_old (new2 w _ _) _) _) _) _, blk_old (blk_old (blk_old (new3 w _ _ _) _) _) _, (((bel3 w _ _ _).alloc (by simp <;> omega) _).alloc (by simp <;> omega) _).alloc (by simp <;> omega) _, own_lit (by simpa using blk_old (blk_old (blk_new (((w.alloc (.cells #[.int .i64 pe, .int .i64 pn] 25)).alloc (.cells #[.int .i64 a, .int .i64 b, .int .i64 c, .int .i64 d, .int .i64 h] 40)).alloc (.cells #[.int .i64 re, .int .i64 rn, .int .i64 ru] 43)) _) _) _) (by omega), own_lit (by simpa using blk_old (blk_new ((((w.alloc (.cells #[.int .i64 pe, .int .i64 pn] 25)).alloc (.cells #[.int .i64 a, .int .i64 b, .int .i64 c, .int .i64 d, .int .i64 h] 40)).alloc (.cells #[.int .i64 re, .int .i64 rn, .int .i64 ru] 43)).alloc _) _) _) (by omega), own_lit (by simpa using blk_new (((((w.alloc (.cells #[.int .i64 pe, .int .i64 pn] 25)).alloc (.cells #[.int .i64 a, .int .i64 b, .int .i64 c, .int .i64 d, .int .i64 h] 40)).alloc (.cells #[.int .i64 re, .int .i64 rn, .int .i64 ru] 43)).alloc _).alloc _) _) (by omega), by omega, by omega, by omega⟩
  case round =>
    obtain ⟨k, n, ga, ca, gb, cb, gc, cc, k1, n0, n1, HN, HK, rfl, rfl, rfl, rfl, hS⟩ := hrel
    have kk : k = 0 ∨ k = 1 ∨ k = 2 := by omega
    clear k1
    rcases kk with rfl | rfl | rfl
    · have hS0 := hS
      obtain ⟨hP, hQ, hR, hB, hA⟩ := hS
      obtain ⟨cP0, cP1, _, _, zP⟩ := blk2 hP
      obtain ⟨cQ0, cQ1, cQ2, cQ3, cQ4, _, _, _, _, _, zQ⟩ := blk5 hQ
      obtain ⟨cR0, cR1, cR2, _, _, _, zR⟩ := blk3 hR
      go_upto_region 9 with fail
      go_cut [13, 14, 15, 16] from 26 to 85 (fun s13 s14 s15 s16 wx => s13 = .int .i64 (lo5 pe re a b) ∧ s14 = .int .i64 (hi5 pe re a b) ∧ s15 = .int .i64 (de5 re) ∧ s16 = .bool (ok5 pe re a b) ∧ Below wr.heap.size wr wx)
      case first =>
        try go_wp2_with fail
        refine wp_region_held_drew (S := (fun w' => w'.heap[w.heap.size]? = some (.cells #[.int .i64 pe, .int .i64 pn] 25) ∧ w'.heap[w.heap.size + 1]? = some (.cells #[.int .i64 a, .int .i64 b, .int .i64 c, .int .i64 d, .int .i64 h] 40) ∧ w'.heap[w.heap.size + 1 + 1]? = some (.cells #[.int .i64 re, .int .i64 rn, .int .i64 ru] 43) ∧ Below wr.heap.size wr w')) (by kernel_rfl) ⟨blk_old (blk_old hP _) _, blk_old (blk_old hQ _) _, blk_old (blk_old hR _) _, (bel2 wr _ _).drew⟩ (fun hHeld => ?_)
        obtain ⟨hP_0, hQ_0, hR_0, hB_0⟩ := id hHeld
        refine wpAnyH_take (i := 0) (oi := _) (v := ?_) rfl (by kernel_rfl) (by kernel_rfl) (by kernel_rfl) (fun _ _ _ h => h) (Or.inl ⟨by rfl, ?_⟩) (by assumption) ?_
        (rotate_left); (focus (intro wv hSw; (obtain ⟨qP, qQ, qR, qB⟩ := hSw); obtain ⟨_, _, _, _, _⟩ := blk2 qP; obtain ⟨_, _, _, _, _, _, _, _, _, _, _⟩ := blk5 qQ; obtain ⟨_, _, _, _, _, _, _⟩ := blk3 qR; go_simp; (try with_reducible rfl)))
        try simp only [Act.put, List.getElem_toArray, List.getElem_cons_succ, List.getElem_cons_zero, List.setIfInBounds_toArray, List.set_cons_zero, List.set_cons_succ]
        refine wpAnyH_take (i := 1) (oi := _) (v := ?_) rfl (by kernel_rfl) (by kernel_rfl) (by kernel_rfl) (fun _ _ _ h => h) (Or.inl ⟨by rfl, ?_⟩) (by assumption) ?_
        (rotate_left); (focus (intro wv hSw; (obtain ⟨qP, qQ, qR, qB⟩ := hSw); obtain ⟨_, _, _, _, _⟩ := blk2 qP; obtain ⟨_, _, _, _, _, _, _, _, _, _, _⟩ := blk5 qQ; obtain ⟨_, _, _, _, _, _, _⟩ := blk3 qR; go_simp; (try with_reducible rfl)))
        try simp only [Act.put, List.getElem_toArray, List.getElem_cons_succ, List.getElem_cons_zero, List.setIfInBounds_toArray, List.set_cons_zero, List.set_cons_succ]
        refine wpAnyH_take (i := 2) (oi := _) (v := ?_) rfl (by kernel_rfl) (by kernel_rfl) (by kernel_rfl) (fun _ _ _ h => h) (Or.inl ⟨by rfl, ?_⟩) (by assumption) ?_
        (rotate_left); (focus (intro wv hSw; (obtain ⟨qP, qQ, qR, qB⟩ := hSw); obtain ⟨_, _, _, _, _⟩ := blk2 qP; obtain ⟨_, _, _, _, _, _, _, _, _, _, _⟩ := blk5 qQ; obtain ⟨_, _, _, _, _, _, _⟩ := blk3 qR; go_simp; (try with_reducible rfl)))
        try simp only [Act.put, List.getElem_toArray, List.getElem_cons_succ, List.getElem_cons_zero, List.setIfInBounds_toArray, List.set_cons_zero, List.set_cons_succ]
        refine wpAnyH_take (i := 3) (oi := _) (v := ?_) rfl (by kernel_rfl) (by kernel_rfl) (by kernel_rfl) (fun _ _ _ h => h) (Or.inl ⟨by rfl, ?_⟩) (by assumption) ?_
        (rotate_left); (focus (intro wv hSw; (obtain ⟨qP, qQ, qR, qB⟩ := hSw); obtain ⟨_, _, _, _, _⟩ := blk2 qP; obtain ⟨_, _, _, _, _, _, _, _, _, _, _⟩ := blk5 qQ; obtain ⟨_, _, _, _, _, _, _⟩ := blk3 qR; go_simp; (try with_reducible rfl)))
        try simp only [Act.put, List.getElem_toArray, List.getElem_cons_succ, List.getElem_cons_zero, List.setIfInBounds_toArray, List.set_cons_zero, List.set_cons_succ]
        refine wpAnyH_take (i := 4) (oi := _) (v := ?_) rfl (by kernel_rfl) (by kernel_rfl) (by kernel_rfl) (fun _ _ _ h => h) (Or.inl ⟨by rfl, ?_⟩) (by assumption) ?_
        (rotate_left); (focus (intro wv hSw; (obtain ⟨qP, qQ, qR, qB⟩ := hSw); obtain ⟨_, _, _, _, _⟩ := blk2 qP; obtain ⟨_, _, _, _, _, _, _, _, _, _, _⟩ := blk5 qQ; obtain ⟨_, _, _, _, _, _, _⟩ := blk3 qR; go_simp; (try with_reducible rfl)))
        try simp only [Act.put, List.getElem_toArray, List.getElem_cons_succ, List.getElem_cons_zero, List.setIfInBounds_toArray, List.set_cons_zero, List.set_cons_succ]
        refine wpAnyH_take (i := 5) (oi := _) (v := ?_) rfl (by kernel_rfl) (by kernel_rfl) (by kernel_rfl) (fun _ _ _ h => h) (Or.inl ⟨by rfl, ?_⟩) (by assumption) ?_
        (rotate_left); (focus (intro wv hSw; (obtain ⟨qP, qQ, qR, qB⟩ := hSw); obtain ⟨_, _, _, _, _⟩ := blk2 qP; obtain ⟨_, _, _, _, _, _, _, _, _, _, _⟩ := blk5 qQ; obtain ⟨_, _, _, _, _, _, _⟩ := blk3 qR; go_simp; (try with_reducible rfl)))
        try simp only [Act.put, List.getElem_toArray, List.getElem_cons_succ, List.getElem_cons_zero, List.setIfInBounds_toArray, List.set_cons_zero, List.set_cons_succ]
        refine wpAnyH_take (i := 7) (oi := _) (v := ?_) rfl (by kernel_rfl) (by kernel_rfl) (by kernel_rfl) (fun _ _ _ h => h) (Or.inl ⟨by rfl, ?_⟩) (by assumption) ?_
        (rotate_left); (focus (intro wv hSw; (obtain ⟨qP, qQ, qR, qB⟩ := hSw); obtain ⟨_, _, _, _, _⟩ := blk2 qP; obtain ⟨_, _, _, _, _, _, _, _, _, _, _⟩ := blk5 qQ; obtain ⟨_, _, _, _, _, _, _⟩ := blk3 qR; go_simp; (try with_reducible rfl)))
        try simp only [Act.put, List.getElem_toArray, List.getElem_cons_succ, List.getElem_cons_zero, List.setIfInBounds_toArray, List.set_cons_zero, List.set_cons_succ]
        refine wpAnyH_take (i := 10) (oi := _) (v := ?_) rfl (by kernel_rfl) (by kernel_rfl) (by kernel_rfl) (fun _ _ _ h => h) (Or.inl ⟨by rfl, ?_⟩) (by assumption) ?_
        (rotate_left); (focus (intro wv hSw; (obtain ⟨qP, qQ, qR, qB⟩ := hSw); obtain ⟨_, _, _, _, _⟩ := blk2 qP; obtain ⟨_, _, _, _, _, _, _, _, _, _, _⟩ := blk5 qQ; obtain ⟨_, _, _, _, _, _, _⟩ := blk3 qR; go_simp; (try with_reducible rfl)))
        try simp only [Act.put, List.getElem_toArray, List.getElem_cons_succ, List.getElem_cons_zero, List.setIfInBounds_toArray, List.set_cons_zero, List.set_cons_succ]
        refine wpAnyH_take (i := 11) (oi := _) (v := ?_) rfl (by kernel_rfl) (by kernel_rfl) (by kernel_rfl) (fun _ _ _ h => h) (Or.inl ⟨by rfl, ?_⟩) (by assumption) ?_
        (rotate_left); (focus (intro wv hSw; (obtain ⟨qP, qQ, qR, qB⟩ := hSw); obtain ⟨_, _, _, _, _⟩ := blk2 qP; obtain ⟨_, _, _, _, _, _, _, _, _, _, _⟩ := blk5 qQ; obtain ⟨_, _, _, _, _, _, _⟩ := blk3 qR; go_simp; (try with_reducible rfl)))
        try simp only [Act.put, List.getElem_toArray, List.getElem_cons_succ, List.getElem_cons_zero, List.setIfInBounds_toArray, List.set_cons_zero, List.set_cons_succ]
        refine wpAnyH_take (i := 12) (oi := _) (v := ?_) rfl (by kernel_rfl) (by kernel_rfl) (by kernel_rfl) (fun _ _ _ h => h) (Or.inl ⟨by rfl, ?_⟩) (by assumption) ?_
        (rotate_left); (focus (intro wv hSw; (obtain ⟨qP, qQ, qR, qB⟩ := hSw); obtain ⟨_, _, _, _, _⟩ := blk2 qP; obtain ⟨_, _, _, _, _, _, _, _, _, _, _⟩ := blk5 qQ; obtain ⟨_, _, _, _, _, _, _⟩ := blk3 qR; go_simp; (try with_reducible rfl)))
        try simp only [Act.put, List.getElem_toArray, List.getElem_cons_succ, List.getElem_cons_zero, List.setIfInBounds_toArray, List.set_cons_zero, List.set_cons_succ]
        refine wpAnyH_take (i := 13) (oi := _) (v := ?_) rfl (by kernel_rfl) (by kernel_rfl) (by kernel_rfl) (fun _ _ _ h => h) (Or.inl ⟨by rfl, ?_⟩) (by assumption) ?_
        (rotate_left); (focus (intro wv hSw; (obtain ⟨qP, qQ, qR, qB⟩ := hSw); obtain ⟨_, _, _, _, _⟩ := blk2 qP; obtain ⟨_, _, _, _, _, _, _, _, _, _, _⟩ := blk5 qQ; obtain ⟨_, _, _, _, _, _, _⟩ := blk3 qR; go_simp; (try with_reducible rfl)))
        try simp only [Act.put, List.getElem_toArray, List.getElem_cons_succ, List.getElem_cons_zero, List.setIfInBounds_toArray, List.set_cons_zero, List.set_cons_succ]
        refine wpAnyH_take (i := 15) (oi := _) (v := ?_) rfl (by kernel_rfl) (by kernel_rfl) (by kernel_rfl) (fun _ _ _ h => h) (Or.inl ⟨by rfl, ?_⟩) (by assumption) ?_
        (rotate_left); (focus (intro wv hSw; (obtain ⟨qP, qQ, qR, qB⟩ := hSw); obtain ⟨_, _, _, _, _⟩ := blk2 qP; obtain ⟨_, _, _, _, _, _, _, _, _, _, _⟩ := blk5 qQ; obtain ⟨_, _, _, _, _, _, _⟩ := blk3 qR; go_simp; (try with_reducible rfl)))
        try simp only [Act.put, List.getElem_toArray, List.getElem_cons_succ, List.getElem_cons_zero, List.setIfInBounds_toArray, List.set_cons_zero, List.set_cons_succ]
        refine wpAnyH_ready (rs := [6, 14]) (by kernel_rfl) (by simp) ?_
        refine AllReadyH.cons (o := _) rfl (fun K hK => ?_) (AllReadyH.cons (o := _) rfl (fun K hK => ?_) (AllReadyH.nil))
        · go_simp
          refine hK.out _ _ ⟨blk_old hP_0 _, blk_old hQ_0 _, blk_old hR_0 _, hB_0.alloc (by have := hB_0.size; omega) _⟩ (fun hHeld => ?_)
          clear hK K
          try simp only [Act.put, List.getElem_toArray, List.getElem_cons_succ, List.getElem_cons_zero, List.setIfInBounds_toArray, List.set_cons_zero, List.set_cons_succ]
          obtain ⟨hP_0a6, hQ_0a6, hR_0a6, hB_0a6⟩ := id hHeld
          have hM_0a6 : (((wr.alloc (.cells #[.int .i64 pe, .int .i64 pn] 3)).alloc (.cells #[.int .i64 re, .int .i64 rn] 3)).drew.alloc (.cells #[.int .i64 a, .int .i64 c] 3)).heap[wr.heap.size + 1 + 1]? = some (.cells #[.int .i64 a, .int .i64 c] 3) := by have := blk_new (((wr.alloc (.cells #[.int .i64 pe, .int .i64 pn] 3)).alloc (.cells #[.int .i64 re, .int .i64 rn] 3)).drew) (.cells #[.int .i64 a, .int .i64 c] 3); simpa using this
          refine wpAnyH_take (i := 8) (oi := _) (v := ?_) rfl (by kernel_rfl) (by kernel_rfl) (by kernel_rfl) (fun _ _ _ h => h) (Or.inl ⟨by rfl, ?_⟩) (by assumption) ?_
          (rotate_left); (focus (intro wv hSw; (obtain ⟨qP, qQ, qR, qB⟩ := hSw); obtain ⟨_, _, _, _, _⟩ := blk2 qP; obtain ⟨_, _, _, _, _, _, _, _, _, _, _⟩ := blk5 qQ; obtain ⟨_, _, _, _, _, _, _⟩ := blk3 qR; go_simp; (try with_reducible rfl)))
          try simp only [Act.put, List.getElem_toArray, List.getElem_cons_succ, List.getElem_cons_zero, List.setIfInBounds_toArray, List.set_cons_zero, List.set_cons_succ]
          refine wpAnyH_ready (rs := [9, 14]) (by kernel_rfl) (by simp) ?_
          refine AllReadyH.cons (o := _) rfl (fun K hK => ?_) (AllReadyH.cons (o := _) rfl (fun K hK => ?_) (AllReadyH.nil))
          · obtain ⟨l0_0a6l9, l1_0a6l9, _, _, _⟩ := blk2 hM_0a6
            go_simp
            refine hK.out _ _ ⟨hP_0a6, hQ_0a6, hR_0a6, hB_0a6⟩ (fun hHeld => ?_)
            clear hK K
            try simp only [Act.put, List.getElem_toArray, List.getElem_cons_succ, List.getElem_cons_zero, List.setIfInBounds_toArray, List.set_cons_zero, List.set_cons_succ]
            obtain ⟨hP_0a6l9, hQ_0a6l9, hR_0a6l9, hB_0a6l9⟩ := id hHeld
            have hM_0a6l9 := hM_0a6
            refine wpAnyH_ready (rs := [14]) (by kernel_rfl) (by simp) ?_
            refine AllReadyH.cons (o := _) rfl (fun K hK => ?_) (AllReadyH.nil)
            go_simp
            refine hK.out _ _ ⟨blk_old hP_0a6l9 _, blk_old hQ_0a6l9 _, blk_old hR_0a6l9 _, hB_0a6l9.alloc (by have := hB_0a6l9.size; omega) _⟩ (fun hHeld => ?_)
            clear hK K
            try simp only [Act.put, List.getElem_toArray, List.getElem_cons_succ, List.getElem_cons_zero, List.setIfInBounds_toArray, List.set_cons_zero, List.set_cons_succ]
            obtain ⟨hP_0a6l9a14, hQ_0a6l9a14, hR_0a6l9a14, hB_0a6l9a14⟩ := id hHeld
            have hM_0a6l9a14 := blk_old hM_0a6l9 (.cells #[.int .i64 b, .int .i64 d] 3)
            have hN_0a6l9a14 : ((((wr.alloc (.cells #[.int .i64 pe, .int .i64 pn] 3)).alloc (.cells #[.int .i64 re, .int .i64 rn] 3)).drew.alloc (.cells #[.int .i64 a, .int .i64 c] 3)).alloc (.cells #[.int .i64 b, .int .i64 d] 3)).heap[wr.heap.size + 1 + 1 + 1]? = some (.cells #[.int .i64 b, .int .i64 d] 3) := by have := blk_new ((((wr.alloc (.cells #[.int .i64 pe, .int .i64 pn] 3)).alloc (.cells #[.int .i64 re, .int .i64 rn] 3)).drew.alloc (.cells #[.int .i64 a, .int .i64 c] 3))) (.cells #[.int .i64 b, .int .i64 d] 3); simpa using this
            refine wpAnyH_take (i := 16) (oi := _) (v := ?_) rfl (by kernel_rfl) (by kernel_rfl) (by kernel_rfl) (fun _ _ _ h => h) (Or.inl ⟨by rfl, ?_⟩) (by assumption) ?_
            (rotate_left); (focus (intro wv hSw; (obtain ⟨qP, qQ, qR, qB⟩ := hSw); obtain ⟨_, _, _, _, _⟩ := blk2 qP; obtain ⟨_, _, _, _, _, _, _, _, _, _, _⟩ := blk5 qQ; obtain ⟨_, _, _, _, _, _, _⟩ := blk3 qR; go_simp; (try with_reducible rfl)))
            try simp only [Act.put, List.getElem_toArray, List.getElem_cons_succ, List.getElem_cons_zero, List.setIfInBounds_toArray, List.set_cons_zero, List.set_cons_succ]
            refine wpAnyH_ready (rs := [17]) (by kernel_rfl) (by simp) ?_
            refine AllReadyH.cons (o := _) rfl (fun K hK => ?_) (AllReadyH.nil)
            obtain ⟨l0_0a6l9a14l17, l1_0a6l9a14l17, _, _, _⟩ := blk2 hN_0a6l9a14
            go_simp
            refine hK.out _ _ ⟨hP_0a6l9a14, hQ_0a6l9a14, hR_0a6l9a14, hB_0a6l9a14⟩ (fun hHeld => ?_)
            clear hK K
            try simp only [Act.put, List.getElem_toArray, List.getElem_cons_succ, List.getElem_cons_zero, List.setIfInBounds_toArray, List.set_cons_zero, List.set_cons_succ]
            obtain ⟨hP_0a6l9a14l17, hQ_0a6l9a14l17, hR_0a6l9a14l17, hB_0a6l9a14l17⟩ := id hHeld
            have hM_0a6l9a14l17 := hM_0a6l9a14
            have hN_0a6l9a14l17 := hN_0a6l9a14
            refine wpAnyH_ready (rs := [18]) (by kernel_rfl) (by simp) ?_
            refine AllReadyH.cons (o := _) rfl (fun K hK => ?_) AllReadyH.nil
            go_simp
            (go_at_call 144; refine (side5_any pe re a b _ (by omega) (by omega) (by omega) (by omega) (by omega) (by omega) (by omega) (by omega)).mono ?_; rintro E x' ⟨rfl, rfl⟩)
            refine hK.out _ _ ⟨hP_0a6l9a14l17, hQ_0a6l9a14l17, hR_0a6l9a14l17, hB_0a6l9a14l17⟩ (fun hHeld => ?_)
            clear hK K
            try simp only [Act.put, List.getElem_toArray, List.getElem_cons_succ, List.getElem_cons_zero, List.setIfInBounds_toArray, List.set_cons_zero, List.set_cons_succ]
            obtain ⟨hP_0a6l9a14l17q, hQ_0a6l9a14l17q, hR_0a6l9a14l17q, hB_0a6l9a14l17q⟩ := id hHeld
            refine wpAnyH_take (i := 19) (oi := _) (v := ?_) rfl (by kernel_rfl) (by kernel_rfl) (by kernel_rfl) (fun _ _ _ h => h) (Or.inl ⟨by rfl, ?_⟩) (by assumption) ?_
            (rotate_left); (focus (intro wv hSw; (obtain ⟨qP, qQ, qR, qB⟩ := hSw); obtain ⟨_, _, _, _, _⟩ := blk2 qP; obtain ⟨_, _, _, _, _, _, _, _, _, _, _⟩ := blk5 qQ; obtain ⟨_, _, _, _, _, _, _⟩ := blk3 qR; go_simp; (try with_reducible rfl)))
            try simp only [Act.put, List.getElem_toArray, List.getElem_cons_succ, List.getElem_cons_zero, List.setIfInBounds_toArray, List.set_cons_zero, List.set_cons_succ]
            refine wpAnyH_take (i := 20) (oi := _) (v := ?_) rfl (by kernel_rfl) (by kernel_rfl) (by kernel_rfl) (fun _ _ _ h => h) (Or.inl ⟨by rfl, ?_⟩) (by assumption) ?_
            (rotate_left); (focus (intro wv hSw; (obtain ⟨qP, qQ, qR, qB⟩ := hSw); obtain ⟨_, _, _, _, _⟩ := blk2 qP; obtain ⟨_, _, _, _, _, _, _, _, _, _, _⟩ := blk5 qQ; obtain ⟨_, _, _, _, _, _, _⟩ := blk3 qR; go_simp; (try with_reducible rfl)))
            try simp only [Act.put, List.getElem_toArray, List.getElem_cons_succ, List.getElem_cons_zero, List.setIfInBounds_toArray, List.set_cons_zero, List.set_cons_succ]
            refine wpAnyH_take (i := 21) (oi := _) (v := ?_) rfl (by kernel_rfl) (by kernel_rfl) (by kernel_rfl) (fun _ _ _ h => h) (Or.inl ⟨by rfl, ?_⟩) (by assumption) ?_
            (rotate_left); (focus (intro wv hSw; (obtain ⟨qP, qQ, qR, qB⟩ := hSw); obtain ⟨_, _, _, _, _⟩ := blk2 qP; obtain ⟨_, _, _, _, _, _, _, _, _, _, _⟩ := blk5 qQ; obtain ⟨_, _, _, _, _, _, _⟩ := blk3 qR; go_simp; (try with_reducible rfl)))
            try simp only [Act.put, List.getElem_toArray, List.getElem_cons_succ, List.getElem_cons_zero, List.setIfInBounds_toArray, List.set_cons_zero, List.set_cons_succ]
            refine wpAnyH_take (i := 22) (oi := _) (v := ?_) rfl (by kernel_rfl) (by kernel_rfl) (by kernel_rfl) (fun _ _ _ h => h) (Or.inl ⟨by rfl, ?_⟩) (by assumption) ?_
            (rotate_left); (focus (intro wv hSw; (obtain ⟨qP, qQ, qR, qB⟩ := hSw); obtain ⟨_, _, _, _, _⟩ := blk2 qP; obtain ⟨_, _, _, _, _, _, _, _, _, _, _⟩ := blk5 qQ; obtain ⟨_, _, _, _, _, _, _⟩ := blk3 qR; go_simp; (try with_reducible rfl)))
            try simp only [Act.put, List.getElem_toArray, List.getElem_cons_succ, List.getElem_cons_zero, List.setIfInBounds_toArray, List.set_cons_zero, List.set_cons_succ]
            refine wpAnyH_take (i := 23) (oi := _) (v := ?_) rfl (by kernel_rfl) (by kernel_rfl) (by kernel_rfl) (fun _ _ _ h => h) (Or.inl ⟨by rfl, ?_⟩) (by assumption) ?_
            (rotate_left); (focus (intro wv hSw; (obtain ⟨qP, qQ, qR, qB⟩ := hSw); obtain ⟨_, _, _, _, _⟩ := blk2 qP; obtain ⟨_, _, _, _, _, _, _, _, _, _, _⟩ := blk5 qQ; obtain ⟨_, _, _, _, _, _, _⟩ := blk3 qR; go_simp; (try with_reducible rfl)))
            try simp only [Act.put, List.getElem_toArray, List.getElem_cons_succ, List.getElem_cons_zero, List.setIfInBounds_toArray, List.set_cons_zero, List.set_cons_succ]
            refine wpAnyH_take (i := 24) (oi := _) (v := ?_) rfl (by kernel_rfl) (by kernel_rfl) (by kernel_rfl) (fun _ _ _ h => h) (Or.inl ⟨by rfl, ?_⟩) (by assumption) ?_
            (rotate_left); (focus (intro wv hSw; (obtain ⟨qP, qQ, qR, qB⟩ := hSw); obtain ⟨_, _, _, _, _⟩ := blk2 qP; obtain ⟨_, _, _, _, _, _, _, _, _, _, _⟩ := blk5 qQ; obtain ⟨_, _, _, _, _, _, _⟩ := blk3 qR; go_simp; (try with_reducible rfl)))
            try simp only [Act.put, List.getElem_toArray, List.getElem_cons_succ, List.getElem_cons_zero, List.setIfInBounds_toArray, List.set_cons_zero, List.set_cons_succ]
            refine wpAnyH_take (i := 25) (oi := _) (v := ?_) rfl (by kernel_rfl) (by kernel_rfl) (by kernel_rfl) (fun _ _ _ h => h) (Or.inl ⟨by rfl, ?_⟩) (by assumption) ?_
            (rotate_left); (focus (intro wv hSw; (obtain ⟨qP, qQ, qR, qB⟩ := hSw); obtain ⟨_, _, _, _, _⟩ := blk2 qP; obtain ⟨_, _, _, _, _, _, _, _, _, _, _⟩ := blk5 qQ; obtain ⟨_, _, _, _, _, _, _⟩ := blk3 qR; go_simp; (try with_reducible rfl)))
            try simp only [Act.put, List.getElem_toArray, List.getElem_cons_succ, List.getElem_cons_zero, List.setIfInBounds_toArray, List.set_cons_zero, List.set_cons_succ]
            refine wpAnyH_take (i := 26) (oi := _) (v := ?_) rfl (by kernel_rfl) (by kernel_rfl) (by kernel_rfl) (fun _ _ _ h => h) (Or.inl ⟨by rfl, ?_⟩) (by assumption) ?_
            (rotate_left); (focus (intro wv hSw; (obtain ⟨qP, qQ, qR, qB⟩ := hSw); obtain ⟨_, _, _, _, _⟩ := blk2 qP; obtain ⟨_, _, _, _, _, _, _, _, _, _, _⟩ := blk5 qQ; obtain ⟨_, _, _, _, _, _, _⟩ := blk3 qR; go_simp; (try with_reducible rfl)))
            try simp only [Act.put, List.getElem_toArray, List.getElem_cons_succ, List.getElem_cons_zero, List.setIfInBounds_toArray, List.set_cons_zero, List.set_cons_succ]
            refine wpAnyH_take (i := 27) (oi := _) (v := ?_) rfl (by kernel_rfl) (by kernel_rfl) (by kernel_rfl) (fun _ _ _ h => h) (Or.inl ⟨by rfl, ?_⟩) (by assumption) ?_
            (rotate_left); (focus (intro wv hSw; (obtain ⟨qP, qQ, qR, qB⟩ := hSw); obtain ⟨_, _, _, _, _⟩ := blk2 qP; obtain ⟨_, _, _, _, _, _, _, _, _, _, _⟩ := blk5 qQ; obtain ⟨_, _, _, _, _, _, _⟩ := blk3 qR; go_simp; (try with_reducible rfl)))
            try simp only [Act.put, List.getElem_toArray, List.getElem_cons_succ, List.getElem_cons_zero, List.setIfInBounds_toArray, List.set_cons_zero, List.set_cons_succ]
            refine wpAnyH_done (by kernel_rfl) ?_ _
            go_wp2_with fail
            go_meet
            exact ⟨rfl, rfl, rfl, rfl, hB_0a6l9a14l17q⟩
          · go_simp
            refine hK.out _ _ ⟨blk_old hP_0a6 _, blk_old hQ_0a6 _, blk_old hR_0a6 _, hB_0a6.alloc (by have := hB_0a6.size; omega) _⟩ (fun hHeld => ?_)
            clear hK K
            try simp only [Act.put, List.getElem_toArray, List.getElem_cons_succ, List.getElem_cons_zero, List.setIfInBounds_toArray, List.set_cons_zero, List.set_cons_succ]
            obtain ⟨hP_0a6a14, hQ_0a6a14, hR_0a6a14, hB_0a6a14⟩ := id hHeld
            have hM_0a6a14 := blk_old hM_0a6 (.cells #[.int .i64 b, .int .i64 d] 3)
            have hN_0a6a14 : ((((wr.alloc (.cells #[.int .i64 pe, .int .i64 pn] 3)).alloc (.cells #[.int .i64 re, .int .i64 rn] 3)).drew.alloc (.cells #[.int .i64 a, .int .i64 c] 3)).alloc (.cells #[.int .i64 b, .int .i64 d] 3)).heap[wr.heap.size + 1 + 1 + 1]? = some (.cells #[.int .i64 b, .int .i64 d] 3) := by have := blk_new ((((wr.alloc (.cells #[.int .i64 pe, .int .i64 pn] 3)).alloc (.cells #[.int .i64 re, .int .i64 rn] 3)).drew.alloc (.cells #[.int .i64 a, .int .i64 c] 3))) (.cells #[.int .i64 b, .int .i64 d] 3); simpa using this
            refine wpAnyH_take (i := 16) (oi := _) (v := ?_) rfl (by kernel_rfl) (by kernel_rfl) (by kernel_rfl) (fun _ _ _ h => h) (Or.inl ⟨by rfl, ?_⟩) (by assumption) ?_
            (rotate_left); (focus (intro wv hSw; (obtain ⟨qP, qQ, qR, qB⟩ := hSw); obtain ⟨_, _, _, _, _⟩ := blk2 qP; obtain ⟨_, _, _, _, _, _, _, _, _, _, _⟩ := blk5 qQ; obtain ⟨_, _, _, _, _, _, _⟩ := blk3 qR; go_simp; (try with_reducible rfl)))
            try simp only [Act.put, List.getElem_toArray, List.getElem_cons_succ, List.getElem_cons_zero, List.setIfInBounds_toArray, List.set_cons_zero, List.set_cons_succ]
            refine wpAnyH_ready (rs := [9, 17]) (by kernel_rfl) (by simp) ?_
            refine AllReadyH.cons (o := _) rfl (fun K hK => ?_) (AllReadyH.cons (o := _) rfl (fun K hK => ?_) (AllReadyH.nil))
            · obtain ⟨l0_0a6a14l9, l1_0a6a14l9, _, _, _⟩ := blk2 hM_0a6a14
              go_simp
              refine hK.out _ _ ⟨hP_0a6a14, hQ_0a6a14, hR_0a6a14, hB_0a6a14⟩ (fun hHeld => ?_)
              clear hK K
              try simp only [Act.put, List.getElem_toArray, List.getElem_cons_succ, List.getElem_cons_zero, List.setIfInBounds_toArray, List.set_cons_zero, List.set_cons_succ]
              obtain ⟨hP_0a6a14l9, hQ_0a6a14l9, hR_0a6a14l9, hB_0a6a14l9⟩ := id hHeld
              have hM_0a6a14l9 := hM_0a6a14
              have hN_0a6a14l9 := hN_0a6a14
              refine wpAnyH_ready (rs := [17]) (by kernel_rfl) (by simp) ?_
              refine AllReadyH.cons (o := _) rfl (fun K hK => ?_) (AllReadyH.nil)
              obtain ⟨l0_0a6a14l9l17, l1_0a6a14l9l17, _, _, _⟩ := blk2 hN_0a6a14l9
              go_simp
              refine hK.out _ _ ⟨hP_0a6a14l9, hQ_0a6a14l9, hR_0a6a14l9, hB_0a6a14l9⟩ (fun hHeld => ?_)
              clear hK K
              try simp only [Act.put, List.getElem_toArray, List.getElem_cons_succ, List.getElem_cons_zero, List.setIfInBounds_toArray, List.set_cons_zero, List.set_cons_succ]
              obtain ⟨hP_0a6a14l9l17, hQ_0a6a14l9l17, hR_0a6a14l9l17, hB_0a6a14l9l17⟩ := id hHeld
              have hM_0a6a14l9l17 := hM_0a6a14l9
              have hN_0a6a14l9l17 := hN_0a6a14l9
              refine wpAnyH_ready (rs := [18]) (by kernel_rfl) (by simp) ?_
              refine AllReadyH.cons (o := _) rfl (fun K hK => ?_) AllReadyH.nil
              go_simp
              (go_at_call 144; refine (side5_any pe re a b _ (by omega) (by omega) (by omega) (by omega) (by omega) (by omega) (by omega) (by omega)).mono ?_; rintro E x' ⟨rfl, rfl⟩)
              refine hK.out _ _ ⟨hP_0a6a14l9l17, hQ_0a6a14l9l17, hR_0a6a14l9l17, hB_0a6a14l9l17⟩ (fun hHeld => ?_)
              clear hK K
              try simp only [Act.put, List.getElem_toArray, List.getElem_cons_succ, List.getElem_cons_zero, List.setIfInBounds_toArray, List.set_cons_zero, List.set_cons_succ]
              obtain ⟨hP_0a6a14l9l17q, hQ_0a6a14l9l17q, hR_0a6a14l9l17q, hB_0a6a14l9l17q⟩ := id hHeld
              refine wpAnyH_take (i := 19) (oi := _) (v := ?_) rfl (by kernel_rfl) (by kernel_rfl) (by kernel_rfl) (fun _ _ _ h => h) (Or.inl ⟨by rfl, ?_⟩) (by assumption) ?_
              (rotate_left); (focus (intro wv hSw; (obtain ⟨qP, qQ, qR, qB⟩ := hSw); obtain ⟨_, _, _, _, _⟩ := blk2 qP; obtain ⟨_, _, _, _, _, _, _, _, _, _, _⟩ := blk5 qQ; obtain ⟨_, _, _, _, _, _, _⟩ := blk3 qR; go_simp; (try with_reducible rfl)))
              try simp only [Act.put, List.getElem_toArray, List.getElem_cons_succ, List.getElem_cons_zero, List.setIfInBounds_toArray, List.set_cons_zero, List.set_cons_succ]
              refine wpAnyH_take (i := 20) (oi := _) (v := ?_) rfl (by kernel_rfl) (by kernel_rfl) (by kernel_rfl) (fun _ _ _ h => h) (Or.inl ⟨by rfl, ?_⟩) (by assumption) ?_
              (rotate_left); (focus (intro wv hSw; (obtain ⟨qP, qQ, qR, qB⟩ := hSw); obtain ⟨_, _, _, _, _⟩ := blk2 qP; obtain ⟨_, _, _, _, _, _, _, _, _, _, _⟩ := blk5 qQ; obtain ⟨_, _, _, _, _, _, _⟩ := blk3 qR; go_simp; (try with_reducible rfl)))
              try simp only [Act.put, List.getElem_toArray, List.getElem_cons_succ, List.getElem_cons_zero, List.setIfInBounds_toArray, List.set_cons_zero, List.set_cons_succ]
              refine wpAnyH_take (i := 21) (oi := _) (v := ?_) rfl (by kernel_rfl) (by kernel_rfl) (by kernel_rfl) (fun _ _ _ h => h) (Or.inl ⟨by rfl, ?_⟩) (by assumption) ?_
              (rotate_left); (focus (intro wv hSw; (obtain ⟨qP, qQ, qR, qB⟩ := hSw); obtain ⟨_, _, _, _, _⟩ := blk2 qP; obtain ⟨_, _, _, _, _, _, _, _, _, _, _⟩ := blk5 qQ; obtain ⟨_, _, _, _, _, _, _⟩ := blk3 qR; go_simp; (try with_reducible rfl)))
              try simp only [Act.put, List.getElem_toArray, List.getElem_cons_succ, List.getElem_cons_zero, List.setIfInBounds_toArray, List.set_cons_zero, List.set_cons_succ]
              refine wpAnyH_take (i := 22) (oi := _) (v := ?_) rfl (by kernel_rfl) (by kernel_rfl) (by kernel_rfl) (fun _ _ _ h => h) (Or.inl ⟨by rfl, ?_⟩) (by assumption) ?_
              (rotate_left); (focus (intro wv hSw; (obtain ⟨qP, qQ, qR, qB⟩ := hSw); obtain ⟨_, _, _, _, _⟩ := blk2 qP; obtain ⟨_, _, _, _, _, _, _, _, _, _, _⟩ := blk5 qQ; obtain ⟨_, _, _, _, _, _, _⟩ := blk3 qR; go_simp; (try with_reducible rfl)))
              try simp only [Act.put, List.getElem_toArray, List.getElem_cons_succ, List.getElem_cons_zero, List.setIfInBounds_toArray, List.set_cons_zero, List.set_cons_succ]
              refine wpAnyH_take (i := 23) (oi := _) (v := ?_) rfl (by kernel_rfl) (by kernel_rfl) (by kernel_rfl) (fun _ _ _ h => h) (Or.inl ⟨by rfl, ?_⟩) (by assumption) ?_
              (rotate_left); (focus (intro wv hSw; (obtain ⟨qP, qQ, qR, qB⟩ := hSw); obtain ⟨_, _, _, _, _⟩ := blk2 qP; obtain ⟨_, _, _, _, _, _, _, _, _, _, _⟩ := blk5 qQ; obtain ⟨_, _, _, _, _, _, _⟩ := blk3 qR; go_simp; (try with_reducible rfl)))
              try simp only [Act.put, List.getElem_toArray, List.getElem_cons_succ, List.getElem_cons_zero, List.setIfInBounds_toArray, List.set_cons_zero, List.set_cons_succ]
              refine wpAnyH_take (i := 24) (oi := _) (v := ?_) rfl (by kernel_rfl) (by kernel_rfl) (by kernel_rfl) (fun _ _ _ h => h) (Or.inl ⟨by rfl, ?_⟩) (by assumption) ?_
              (rotate_left); (focus (intro wv hSw; (obtain ⟨qP, qQ, qR, qB⟩ := hSw); obtain ⟨_, _, _, _, _⟩ := blk2 qP; obtain ⟨_, _, _, _, _, _, _, _, _, _, _⟩ := blk5 qQ; obtain ⟨_, _, _, _, _, _, _⟩ := blk3 qR; go_simp; (try with_reducible rfl)))
              try simp only [Act.put, List.getElem_toArray, List.getElem_cons_succ, List.getElem_cons_zero, List.setIfInBounds_toArray, List.set_cons_zero, List.set_cons_succ]
              refine wpAnyH_take (i := 25) (oi := _) (v := ?_) rfl (by kernel_rfl) (by kernel_rfl) (by kernel_rfl) (fun _ _ _ h => h) (Or.inl ⟨by rfl, ?_⟩) (by assumption) ?_
              (rotate_left); (focus (intro wv hSw; (obtain ⟨qP, qQ, qR, qB⟩ := hSw); obtain ⟨_, _, _, _, _⟩ := blk2 qP; obtain ⟨_, _, _, _, _, _, _, _, _, _, _⟩ := blk5 qQ; obtain ⟨_, _, _, _, _, _, _⟩ := blk3 qR; go_simp; (try with_reducible rfl)))
              try simp only [Act.put, List.getElem_toArray, List.getElem_cons_succ, List.getElem_cons_zero, List.setIfInBounds_toArray, List.set_cons_zero, List.set_cons_succ]
              refine wpAnyH_take (i := 26) (oi := _) (v := ?_) rfl (by kernel_rfl) (by kernel_rfl) (by kernel_rfl) (fun _ _ _ h => h) (Or.inl ⟨by rfl, ?_⟩) (by assumption) ?_
              (rotate_left); (focus (intro wv hSw; (obtain ⟨qP, qQ, qR, qB⟩ := hSw); obtain ⟨_, _, _, _, _⟩ := blk2 qP; obtain ⟨_, _, _, _, _, _, _, _, _, _, _⟩ := blk5 qQ; obtain ⟨_, _, _, _, _, _, _⟩ := blk3 qR; go_simp; (try with_reducible rfl)))
              try simp only [Act.put, List.getElem_toArray, List.getElem_cons_succ, List.getElem_cons_zero, List.setIfInBounds_toArray, List.set_cons_zero, List.set_cons_succ]
              refine wpAnyH_take (i := 27) (oi := _) (v := ?_) rfl (by kernel_rfl) (by kernel_rfl) (by kernel_rfl) (fun _ _ _ h => h) (Or.inl ⟨by rfl, ?_⟩) (by assumption) ?_
              (rotate_left); (focus (intro wv hSw; (obtain ⟨qP, qQ, qR, qB⟩ := hSw); obtain ⟨_, _, _, _, _⟩ := blk2 qP; obtain ⟨_, _, _, _, _, _, _, _, _, _, _⟩ := blk5 qQ; obtain ⟨_, _, _, _, _, _, _⟩ := blk3 qR; go_simp; (try with_reducible rfl)))
              try simp only [Act.put, List.getElem_toArray, List.getElem_cons_succ, List.getElem_cons_zero, List.setIfInBounds_toArray, List.set_cons_zero, List.set_cons_succ]
              refine wpAnyH_done (by kernel_rfl) ?_ _
              go_wp2_with fail
              go_meet
              exact ⟨rfl, rfl, rfl, rfl, hB_0a6a14l9l17q⟩
            · obtain ⟨l0_0a6a14l17, l1_0a6a14l17, _, _, _⟩ := blk2 hN_0a6a14
              go_simp
              refine hK.out _ _ ⟨hP_0a6a14, hQ_0a6a14, hR_0a6a14, hB_0a6a14⟩ (fun hHeld => ?_)
              clear hK K
              try simp only [Act.put, List.getElem_toArray, List.getElem_cons_succ, List.getElem_cons_zero, List.setIfInBounds_toArray, List.set_cons_zero, List.set_cons_succ]
              obtain ⟨hP_0a6a14l17, hQ_0a6a14l17, hR_0a6a14l17, hB_0a6a14l17⟩ := id hHeld
              have hM_0a6a14l17 := hM_0a6a14
              have hN_0a6a14l17 := hN_0a6a14
              refine wpAnyH_ready (rs := [9]) (by kernel_rfl) (by simp) ?_
              refine AllReadyH.cons (o := _) rfl (fun K hK => ?_) (AllReadyH.nil)
              obtain ⟨l0_0a6a14l17l9, l1_0a6a14l17l9, _, _, _⟩ := blk2 hM_0a6a14l17
              go_simp
              refine hK.out _ _ ⟨hP_0a6a14l17, hQ_0a6a14l17, hR_0a6a14l17, hB_0a6a14l17⟩ (fun hHeld => ?_)
              clear hK K
              try simp only [Act.put, List.getElem_toArray, List.getElem_cons_succ, List.getElem_cons_zero, List.setIfInBounds_toArray, List.set_cons_zero, List.set_cons_succ]
              obtain ⟨hP_0a6a14l17l9, hQ_0a6a14l17l9, hR_0a6a14l17l9, hB_0a6a14l17l9⟩ := id hHeld
              have hM_0a6a14l17l9 := hM_0a6a14l17
              have hN_0a6a14l17l9 := hN_0a6a14l17
              refine wpAnyH_ready (rs := [18]) (by kernel_rfl) (by simp) ?_
              refine AllReadyH.cons (o := _) rfl (fun K hK => ?_) AllReadyH.nil
              go_simp
              (go_at_call 144; refine (side5_any pe re a b _ (by omega) (by omega) (by omega) (by omega) (by omega) (by omega) (by omega) (by omega)).mono ?_; rintro E x' ⟨rfl, rfl⟩)
              refine hK.out _ _ ⟨hP_0a6a14l17l9, hQ_0a6a14l17l9, hR_0a6a14l17l9, hB_0a6a14l17l9⟩ (fun hHeld => ?_)
              clear hK K
              try simp only [Act.put, List.getElem_toArray, List.getElem_cons_succ, List.getElem_cons_zero, List.setIfInBounds_toArray, List.set_cons_zero, List.set_cons_succ]
              obtain ⟨hP_0a6a14l17l9q, hQ_0a6a14l17l9q, hR_0a6a14l17l9q, hB_0a6a14l17l9q⟩ := id hHeld
              refine wpAnyH_take (i := 19) (oi := _) (v := ?_) rfl (by kernel_rfl) (by kernel_rfl) (by kernel_rfl) (fun _ _ _ h => h) (Or.inl ⟨by rfl, ?_⟩) (by assumption) ?_
              (rotate_left); (focus (intro wv hSw; (obtain ⟨qP, qQ, qR, qB⟩ := hSw); obtain ⟨_, _, _, _, _⟩ := blk2 qP; obtain ⟨_, _, _, _, _, _, _, _, _, _, _⟩ := blk5 qQ; obtain ⟨_, _, _, _, _, _, _⟩ := blk3 qR; go_simp; (try with_reducible rfl)))
              try simp only [Act.put, List.getElem_toArray, List.getElem_cons_succ, List.getElem_cons_zero, List.setIfInBounds_toArray, List.set_cons_zero, List.set_cons_succ]
              refine wpAnyH_take (i := 20) (oi := _) (v := ?_) rfl (by kernel_rfl) (by kernel_rfl) (by kernel_rfl) (fun _ _ _ h => h) (Or.inl ⟨by rfl, ?_⟩) (by assumption) ?_
              (rotate_left); (focus (intro wv hSw; (obtain ⟨qP, qQ, qR, qB⟩ := hSw); obtain ⟨_, _, _, _, _⟩ := blk2 qP; obtain ⟨_, _, _, _, _, _, _, _, _, _, _⟩ := blk5 qQ; obtain ⟨_, _, _, _, _, _, _⟩ := blk3 qR; go_simp; (try with_reducible rfl)))
              try simp only [Act.put, List.getElem_toArray, List.getElem_cons_succ, List.getElem_cons_zero, List.setIfInBounds_toArray, List.set_cons_zero, List.set_cons_succ]
              refine wpAnyH_take (i := 21) (oi := _) (v := ?_) rfl (by kernel_rfl) (by kernel_rfl) (by kernel_rfl) (fun _ _ _ h => h) (Or.inl ⟨by rfl, ?_⟩) (by assumption) ?_
              (rotate_left); (focus (intro wv hSw; (obtain ⟨qP, qQ, qR, qB⟩ := hSw); obtain ⟨_, _, _, _, _⟩ := blk2 qP; obtain ⟨_, _, _, _, _, _, _, _, _, _, _⟩ := blk5 qQ; obtain ⟨_, _, _, _, _, _, _⟩ := blk3 qR; go_simp; (try with_reducible rfl)))
              try simp only [Act.put, List.getElem_toArray, List.getElem_cons_succ, List.getElem_cons_zero, List.setIfInBounds_toArray, List.set_cons_zero, List.set_cons_succ]
              refine wpAnyH_take (i := 22) (oi := _) (v := ?_) rfl (by kernel_rfl) (by kernel_rfl) (by kernel_rfl) (fun _ _ _ h => h) (Or.inl ⟨by rfl, ?_⟩) (by assumption) ?_
              (rotate_left); (focus (intro wv hSw; (obtain ⟨qP, qQ, qR, qB⟩ := hSw); obtain ⟨_, _, _, _, _⟩ := blk2 qP; obtain ⟨_, _, _, _, _, _, _, _, _, _, _⟩ := blk5 qQ; obtain ⟨_, _, _, _, _, _, _⟩ := blk3 qR; go_simp; (try with_reducible rfl)))
              try simp only [Act.put, List.getElem_toArray, List.getElem_cons_succ, List.getElem_cons_zero, List.setIfInBounds_toArray, List.set_cons_zero, List.set_cons_succ]
              refine wpAnyH_take (i := 23) (oi := _) (v := ?_) rfl (by kernel_rfl) (by kernel_rfl) (by kernel_rfl) (fun _ _ _ h => h) (Or.inl ⟨by rfl, ?_⟩) (by assumption) ?_
              (rotate_left); (focus (intro wv hSw; (obtain ⟨qP, qQ, qR, qB⟩ := hSw); obtain ⟨_, _, _, _, _⟩ := blk2 qP; obtain ⟨_, _, _, _, _, _, _, _, _, _, _⟩ := blk5 qQ; obtain ⟨_, _, _, _, _, _, _⟩ := blk3 qR; go_simp; (try with_reducible rfl)))
              try simp only [Act.put, List.getElem_toArray, List.getElem_cons_succ, List.getElem_cons_zero, List.setIfInBounds_toArray, List.set_cons_zero, List.set_cons_succ]
              refine wpAnyH_take (i := 24) (oi := _) (v := ?_) rfl (by kernel_rfl) (by kernel_rfl) (by kernel_rfl) (fun _ _ _ h => h) (Or.inl ⟨by rfl, ?_⟩) (by assumption) ?_
              (rotate_left); (focus (intro wv hSw; (obtain ⟨qP, qQ, qR, qB⟩ := hSw); obtain ⟨_, _, _, _, _⟩ := blk2 qP; obtain ⟨_, _, _, _, _, _, _, _, _, _, _⟩ := blk5 qQ; obtain ⟨_, _, _, _, _, _, _⟩ := blk3 qR; go_simp; (try with_reducible rfl)))
              try simp only [Act.put, List.getElem_toArray, List.getElem_cons_succ, List.getElem_cons_zero, List.setIfInBounds_toArray, List.set_cons_zero, List.set_cons_succ]
              refine wpAnyH_take (i := 25) (oi := _) (v := ?_) rfl (by kernel_rfl) (by kernel_rfl) (by kernel_rfl) (fun _ _ _ h => h) (Or.inl ⟨by rfl, ?_⟩) (by assumption) ?_
              (rotate_left); (focus (intro wv hSw; (obtain ⟨qP, qQ, qR, qB⟩ := hSw); obtain ⟨_, _, _, _, _⟩ := blk2 qP; obtain ⟨_, _, _, _, _, _, _, _, _, _, _⟩ := blk5 qQ; obtain ⟨_, _, _, _, _, _, _⟩ := blk3 qR; go_simp; (try with_reducible rfl)))
              try simp only [Act.put, List.getElem_toArray, List.getElem_cons_succ, List.getElem_cons_zero, List.setIfInBounds_toArray, List.set_cons_zero, List.set_cons_succ]
              refine wpAnyH_take (i := 26) (oi := _) (v := ?_) rfl (by kernel_rfl) (by kernel_rfl) (by kernel_rfl) (fun _ _ _ h => h) (Or.inl ⟨by rfl, ?_⟩) (by assumption) ?_
              (rotate_left); (focus (intro wv hSw; (obtain ⟨qP, qQ, qR, qB⟩ := hSw); obtain ⟨_, _, _, _, _⟩ := blk2 qP; obtain ⟨_, _, _, _, _, _, _, _, _, _, _⟩ := blk5 qQ; obtain ⟨_, _, _, _, _, _, _⟩ := blk3 qR; go_simp; (try with_reducible rfl)))
              try simp only [Act.put, List.getElem_toArray, List.getElem_cons_succ, List.getElem_cons_zero, List.setIfInBounds_toArray, List.set_cons_zero, List.set_cons_succ]
              refine wpAnyH_take (i := 27) (oi := _) (v := ?_) rfl (by kernel_rfl) (by kernel_rfl) (by kernel_rfl) (fun _ _ _ h => h) (Or.inl ⟨by rfl, ?_⟩) (by assumption) ?_
              (rotate_left); (focus (intro wv hSw; (obtain ⟨qP, qQ, qR, qB⟩ := hSw); obtain ⟨_, _, _, _, _⟩ := blk2 qP; obtain ⟨_, _, _, _, _, _, _, _, _, _, _⟩ := blk5 qQ; obtain ⟨_, _, _, _, _, _, _⟩ := blk3 qR; go_simp; (try with_reducible rfl)))
              try simp only [Act.put, List.getElem_toArray, List.getElem_cons_succ, List.getElem_cons_zero, List.setIfInBounds_toArray, List.set_cons_zero, List.set_cons_succ]
              refine wpAnyH_done (by kernel_rfl) ?_ _
              go_wp2_with fail
              go_meet
              exact ⟨rfl, rfl, rfl, rfl, hB_0a6a14l17l9q⟩
        · go_simp
          refine hK.out _ _ ⟨blk_old hP_0 _, blk_old hQ_0 _, blk_old hR_0 _, hB_0.alloc (by have := hB_0.size; omega) _⟩ (fun hHeld => ?_)
          clear hK K
          try simp only [Act.put, List.getElem_toArray, List.getElem_cons_succ, List.getElem_cons_zero, List.setIfInBounds_toArray, List.set_cons_zero, List.set_cons_succ]
          obtain ⟨hP_0a14, hQ_0a14, hR_0a14, hB_0a14⟩ := id hHeld
          have hN_0a14 : (((wr.alloc (.cells #[.int .i64 pe, .int .i64 pn] 3)).alloc (.cells #[.int .i64 re, .int .i64 rn] 3)).drew.alloc (.cells #[.int .i64 b, .int .i64 d] 3)).heap[wr.heap.size + 1 + 1]? = some (.cells #[.int .i64 b, .int .i64 d] 3) := by have := blk_new (((wr.alloc (.cells #[.int .i64 pe, .int .i64 pn] 3)).alloc (.cells #[.int .i64 re, .int .i64 rn] 3)).drew) (.cells #[.int .i64 b, .int .i64 d] 3); simpa using this
          refine wpAnyH_take (i := 16) (oi := _) (v := ?_) rfl (by kernel_rfl) (by kernel_rfl) (by kernel_rfl) (fun _ _ _ h => h) (Or.inl ⟨by rfl, ?_⟩) (by assumption) ?_
          (rotate_left); (focus (intro wv hSw; (obtain ⟨qP, qQ, qR, qB⟩ := hSw); obtain ⟨_, _, _, _, _⟩ := blk2 qP; obtain ⟨_, _, _, _, _, _, _, _, _, _, _⟩ := blk5 qQ; obtain ⟨_, _, _, _, _, _, _⟩ := blk3 qR; go_simp; (try with_reducible rfl)))
          try simp only [Act.put, List.getElem_toArray, List.getElem_cons_succ, List.getElem_cons_zero, List.setIfInBounds_toArray, List.set_cons_zero, List.set_cons_succ]
          refine wpAnyH_ready (rs := [6, 17]) (by kernel_rfl) (by simp) ?_
          refine AllReadyH.cons (o := _) rfl (fun K hK => ?_) (AllReadyH.cons (o := _) rfl (fun K hK => ?_) (AllReadyH.nil))
          · go_simp
            refine hK.out _ _ ⟨blk_old hP_0a14 _, blk_old hQ_0a14 _, blk_old hR_0a14 _, hB_0a14.alloc (by have := hB_0a14.size; omega) _⟩ (fun hHeld => ?_)
            clear hK K
            try simp only [Act.put, List.getElem_toArray, List.getElem_cons_succ, List.getElem_cons_zero, List.setIfInBounds_toArray, List.set_cons_zero, List.set_cons_succ]
            obtain ⟨hP_0a14a6, hQ_0a14a6, hR_0a14a6, hB_0a14a6⟩ := id hHeld
            have hN_0a14a6 := blk_old hN_0a14 (.cells #[.int .i64 a, .int .i64 c] 3)
            have hM_0a14a6 : ((((wr.alloc (.cells #[.int .i64 pe, .int .i64 pn] 3)).alloc (.cells #[.int .i64 re, .int .i64 rn] 3)).drew.alloc (.cells #[.int .i64 b, .int .i64 d] 3)).alloc (.cells #[.int .i64 a, .int .i64 c] 3)).heap[wr.heap.size + 1 + 1 + 1]? = some (.cells #[.int .i64 a, .int .i64 c] 3) := by have := blk_new ((((wr.alloc (.cells #[.int .i64 pe, .int .i64 pn] 3)).alloc (.cells #[.int .i64 re, .int .i64 rn] 3)).drew.alloc (.cells #[.int .i64 b, .int .i64 d] 3))) (.cells #[.int .i64 a, .int .i64 c] 3); simpa using this
            refine wpAnyH_take (i := 8) (oi := _) (v := ?_) rfl (by kernel_rfl) (by kernel_rfl) (by kernel_rfl) (fun _ _ _ h => h) (Or.inl ⟨by rfl, ?_⟩) (by assumption) ?_
            (rotate_left); (focus (intro wv hSw; (obtain ⟨qP, qQ, qR, qB⟩ := hSw); obtain ⟨_, _, _, _, _⟩ := blk2 qP; obtain ⟨_, _, _, _, _, _, _, _, _, _, _⟩ := blk5 qQ; obtain ⟨_, _, _, _, _, _, _⟩ := blk3 qR; go_simp; (try with_reducible rfl)))
            try simp only [Act.put, List.getElem_toArray, List.getElem_cons_succ, List.getElem_cons_zero, List.setIfInBounds_toArray, List.set_cons_zero, List.set_cons_succ]
            refine wpAnyH_ready (rs := [9, 17]) (by kernel_rfl) (by simp) ?_
            refine AllReadyH.cons (o := _) rfl (fun K hK => ?_) (AllReadyH.cons (o := _) rfl (fun K hK => ?_) (AllReadyH.nil))
            · obtain ⟨l0_0a14a6l9, l1_0a14a6l9, _, _, _⟩ := blk2 hM_0a14a6
              go_simp
              refine hK.out _ _ ⟨hP_0a14a6, hQ_0a14a6, hR_0a14a6, hB_0a14a6⟩ (fun hHeld => ?_)
              clear hK K
              try simp only [Act.put, List.getElem_toArray, List.getElem_cons_succ, List.getElem_cons_zero, List.setIfInBounds_toArray, List.set_cons_zero, List.set_cons_succ]
              obtain ⟨hP_0a14a6l9, hQ_0a14a6l9, hR_0a14a6l9, hB_0a14a6l9⟩ := id hHeld
              have hN_0a14a6l9 := hN_0a14a6
              have hM_0a14a6l9 := hM_0a14a6
              refine wpAnyH_ready (rs := [17]) (by kernel_rfl) (by simp) ?_
              refine AllReadyH.cons (o := _) rfl (fun K hK => ?_) (AllReadyH.nil)
              obtain ⟨l0_0a14a6l9l17, l1_0a14a6l9l17, _, _, _⟩ := blk2 hN_0a14a6l9
              go_simp
              refine hK.out _ _ ⟨hP_0a14a6l9, hQ_0a14a6l9, hR_0a14a6l9, hB_0a14a6l9⟩ (fun hHeld => ?_)
              clear hK K
              try simp only [Act.put, List.getElem_toArray, List.getElem_cons_succ, List.getElem_cons_zero, List.setIfInBounds_toArray, List.set_cons_zero, List.set_cons_succ]
              obtain ⟨hP_0a14a6l9l17, hQ_0a14a6l9l17, hR_0a14a6l9l17, hB_0a14a6l9l17⟩ := id hHeld
              have hN_0a14a6l9l17 := hN_0a14a6l9
              have hM_0a14a6l9l17 := hM_0a14a6l9
              refine wpAnyH_ready (rs := [18]) (by kernel_rfl) (by simp) ?_
              refine AllReadyH.cons (o := _) rfl (fun K hK => ?_) AllReadyH.nil
              go_simp
              (go_at_call 144; refine (side5_any pe re a b _ (by omega) (by omega) (by omega) (by omega) (by omega) (by omega) (by omega) (by omega)).mono ?_; rintro E x' ⟨rfl, rfl⟩)
              refine hK.out _ _ ⟨hP_0a14a6l9l17, hQ_0a14a6l9l17, hR_0a14a6l9l17, hB_0a14a6l9l17⟩ (fun hHeld => ?_)
              clear hK K
              try simp only [Act.put, List.getElem_toArray, List.getElem_cons_succ, List.getElem_cons_zero, List.setIfInBounds_toArray, List.set_cons_zero, List.set_cons_succ]
              obtain ⟨hP_0a14a6l9l17q, hQ_0a14a6l9l17q, hR_0a14a6l9l17q, hB_0a14a6l9l17q⟩ := id hHeld
              refine wpAnyH_take (i := 19) (oi := _) (v := ?_) rfl (by kernel_rfl) (by kernel_rfl) (by kernel_rfl) (fun _ _ _ h => h) (Or.inl ⟨by rfl, ?_⟩) (by assumption) ?_
              (rotate_left); (focus (intro wv hSw; (obtain ⟨qP, qQ, qR, qB⟩ := hSw); obtain ⟨_, _, _, _, _⟩ := blk2 qP; obtain ⟨_, _, _, _, _, _, _, _, _, _, _⟩ := blk5 qQ; obtain ⟨_, _, _, _, _, _, _⟩ := blk3 qR; go_simp; (try with_reducible rfl)))
              try simp only [Act.put, List.getElem_toArray, List.getElem_cons_succ, List.getElem_cons_zero, List.setIfInBounds_toArray, List.set_cons_zero, List.set_cons_succ]
              refine wpAnyH_take (i := 20) (oi := _) (v := ?_) rfl (by kernel_rfl) (by kernel_rfl) (by kernel_rfl) (fun _ _ _ h => h) (Or.inl ⟨by rfl, ?_⟩) (by assumption) ?_
              (rotate_left); (focus (intro wv hSw; (obtain ⟨qP, qQ, qR, qB⟩ := hSw); obtain ⟨_, _, _, _, _⟩ := blk2 qP; obtain ⟨_, _, _, _, _, _, _, _, _, _, _⟩ := blk5 qQ; obtain ⟨_, _, _, _, _, _, _⟩ := blk3 qR; go_simp; (try with_reducible rfl)))
              try simp only [Act.put, List.getElem_toArray, List.getElem_cons_succ, List.getElem_cons_zero, List.setIfInBounds_toArray, List.set_cons_zero, List.set_cons_succ]
              refine wpAnyH_take (i := 21) (oi := _) (v := ?_) rfl (by kernel_rfl) (by kernel_rfl) (by kernel_rfl) (fun _ _ _ h => h) (Or.inl ⟨by rfl, ?_⟩) (by assumption) ?_
              (rotate_left); (focus (intro wv hSw; (obtain ⟨qP, qQ, qR, qB⟩ := hSw); obtain ⟨_, _, _, _, _⟩ := blk2 qP; obtain ⟨_, _, _, _, _, _, _, _, _, _, _⟩ := blk5 qQ; obtain ⟨_, _, _, _, _, _, _⟩ := blk3 qR; go_simp; (try with_reducible rfl)))
              try simp only [Act.put, List.getElem_toArray, List.getElem_cons_succ, List.getElem_cons_zero, List.setIfInBounds_toArray, List.set_cons_zero, List.set_cons_succ]
              refine wpAnyH_take (i := 22) (oi := _) (v := ?_) rfl (by kernel_rfl) (by kernel_rfl) (by kernel_rfl) (fun _ _ _ h => h) (Or.inl ⟨by rfl, ?_⟩) (by assumption) ?_
              (rotate_left); (focus (intro wv hSw; (obtain ⟨qP, qQ, qR, qB⟩ := hSw); obtain ⟨_, _, _, _, _⟩ := blk2 qP; obtain ⟨_, _, _, _, _, _, _, _, _, _, _⟩ := blk5 qQ; obtain ⟨_, _, _, _, _, _, _⟩ := blk3 qR; go_simp; (try with_reducible rfl)))
              try simp only [Act.put, List.getElem_toArray, List.getElem_cons_succ, List.getElem_cons_zero, List.setIfInBounds_toArray, List.set_cons_zero, List.set_cons_succ]
              refine wpAnyH_take (i := 23) (oi := _) (v := ?_) rfl (by kernel_rfl) (by kernel_rfl) (by kernel_rfl) (fun _ _ _ h => h) (Or.inl ⟨by rfl, ?_⟩) (by assumption) ?_
              (rotate_left); (focus (intro wv hSw; (obtain ⟨qP, qQ, qR, qB⟩ := hSw); obtain ⟨_, _, _, _, _⟩ := blk2 qP; obtain ⟨_, _, _, _, _, _, _, _, _, _, _⟩ := blk5 qQ; obtain ⟨_, _, _, _, _, _, _⟩ := blk3 qR; go_simp; (try with_reducible rfl)))
              try simp only [Act.put, List.getElem_toArray, List.getElem_cons_succ, List.getElem_cons_zero, List.setIfInBounds_toArray, List.set_cons_zero, List.set_cons_succ]
              refine wpAnyH_take (i := 24) (oi := _) (v := ?_) rfl (by kernel_rfl) (by kernel_rfl) (by kernel_rfl) (fun _ _ _ h => h) (Or.inl ⟨by rfl, ?_⟩) (by assumption) ?_
              (rotate_left); (focus (intro wv hSw; (obtain ⟨qP, qQ, qR, qB⟩ := hSw); obtain ⟨_, _, _, _, _⟩ := blk2 qP; obtain ⟨_, _, _, _, _, _, _, _, _, _, _⟩ := blk5 qQ; obtain ⟨_, _, _, _, _, _, _⟩ := blk3 qR; go_simp; (try with_reducible rfl)))
              try simp only [Act.put, List.getElem_toArray, List.getElem_cons_succ, List.getElem_cons_zero, List.setIfInBounds_toArray, List.set_cons_zero, List.set_cons_succ]
              refine wpAnyH_take (i := 25) (oi := _) (v := ?_) rfl (by kernel_rfl) (by kernel_rfl) (by kernel_rfl) (fun _ _ _ h => h) (Or.inl ⟨by rfl, ?_⟩) (by assumption) ?_
              (rotate_left); (focus (intro wv hSw; (obtain ⟨qP, qQ, qR, qB⟩ := hSw); obtain ⟨_, _, _, _, _⟩ := blk2 qP; obtain ⟨_, _, _, _, _, _, _, _, _, _, _⟩ := blk5 qQ; obtain ⟨_, _, _, _, _, _, _⟩ := blk3 qR; go_simp; (try with_reducible rfl)))
              try simp only [Act.put, List.getElem_toArray, List.getElem_cons_succ, List.getElem_cons_zero, List.setIfInBounds_toArray, List.set_cons_zero, List.set_cons_succ]
              refine wpAnyH_take (i := 26) (oi := _) (v := ?_) rfl (by kernel_rfl) (by kernel_rfl) (by kernel_rfl) (fun _ _ _ h => h) (Or.inl ⟨by rfl, ?_⟩) (by assumption) ?_
              (rotate_left); (focus (intro wv hSw; (obtain ⟨qP, qQ, qR, qB⟩ := hSw); obtain ⟨_, _, _, _, _⟩ := blk2 qP; obtain ⟨_, _, _, _, _, _, _, _, _, _, _⟩ := blk5 qQ; obtain ⟨_, _, _, _, _, _, _⟩ := blk3 qR; go_simp; (try with_reducible rfl)))
              try simp only [Act.put, List.getElem_toArray, List.getElem_cons_succ, List.getElem_cons_zero, List.setIfInBounds_toArray, List.set_cons_zero, List.set_cons_succ]
              refine wpAnyH_take (i := 27) (oi := _) (v := ?_) rfl (by kernel_rfl) (by kernel_rfl) (by kernel_rfl) (fun _ _ _ h => h) (Or.inl ⟨by rfl, ?_⟩) (by assumption) ?_
              (rotate_left); (focus (intro wv hSw; (obtain ⟨qP, qQ, qR, qB⟩ := hSw); obtain ⟨_, _, _, _, _⟩ := blk2 qP; obtain ⟨_, _, _, _, _, _, _, _, _, _, _⟩ := blk5 qQ; obtain ⟨_, _, _, _, _, _, _⟩ := blk3 qR; go_simp; (try with_reducible rfl)))
              try simp only [Act.put, List.getElem_toArray, List.getElem_cons_succ, List.getElem_cons_zero, List.setIfInBounds_toArray, List.set_cons_zero, List.set_cons_succ]
              refine wpAnyH_done (by kernel_rfl) ?_ _
              go_wp2_with fail
              go_meet
              exact ⟨rfl, rfl, rfl, rfl, hB_0a14a6l9l17q⟩
            · obtain ⟨l0_0a14a6l17, l1_0a14a6l17, _, _, _⟩ := blk2 hN_0a14a6
              go_simp
              refine hK.out _ _ ⟨hP_0a14a6, hQ_0a14a6, hR_0a14a6, hB_0a14a6⟩ (fun hHeld => ?_)
              clear hK K
              try simp only [Act.put, List.getElem_toArray, List.getElem_cons_succ, List.getElem_cons_zero, List.setIfInBounds_toArray, List.set_cons_zero, List.set_cons_succ]
              obtain ⟨hP_0a14a6l17, hQ_0a14a6l17, hR_0a14a6l17, hB_0a14a6l17⟩ := id hHeld
              have hN_0a14a6l17 := hN_0a14a6
              have hM_0a14a6l17 := hM_0a14a6
              refine wpAnyH_ready (rs := [9]) (by kernel_rfl) (by simp) ?_
              refine AllReadyH.cons (o := _) rfl (fun K hK => ?_) (AllReadyH.nil)
              obtain ⟨l0_0a14a6l17l9, l1_0a14a6l17l9, _, _, _⟩ := blk2 hM_0a14a6l17
              go_simp
              refine hK.out _ _ ⟨hP_0a14a6l17, hQ_0a14a6l17, hR_0a14a6l17, hB_0a14a6l17⟩ (fun hHeld => ?_)
              clear hK K
              try simp only [Act.put, List.getElem_toArray, List.getElem_cons_succ, List.getElem_cons_zero, List.setIfInBounds_toArray, List.set_cons_zero, List.set_cons_succ]
              obtain ⟨hP_0a14a6l17l9, hQ_0a14a6l17l9, hR_0a14a6l17l9, hB_0a14a6l17l9⟩ := id hHeld
              have hN_0a14a6l17l9 := hN_0a14a6l17
              have hM_0a14a6l17l9 := hM_0a14a6l17
              refine wpAnyH_ready (rs := [18]) (by kernel_rfl) (by simp) ?_
              refine AllReadyH.cons (o := _) rfl (fun K hK => ?_) AllReadyH.nil
              go_simp
              (go_at_call 144; refine (side5_any pe re a b _ (by omega) (by omega) (by omega) (by omega) (by omega) (by omega) (by omega) (by omega)).mono ?_; rintro E x' ⟨rfl, rfl⟩)
              refine hK.out _ _ ⟨hP_0a14a6l17l9, hQ_0a14a6l17l9, hR_0a14a6l17l9, hB_0a14a6l17l9⟩ (fun hHeld => ?_)
              clear hK K
              try simp only [Act.put, List.getElem_toArray, List.getElem_cons_succ, List.getElem_cons_zero, List.setIfInBounds_toArray, List.set_cons_zero, List.set_cons_succ]
              obtain ⟨hP_0a14a6l17l9q, hQ_0a14a6l17l9q, hR_0a14a6l17l9q, hB_0a14a6l17l9q⟩ := id hHeld
              refine wpAnyH_take (i := 19) (oi := _) (v := ?_) rfl (by kernel_rfl) (by kernel_rfl) (by kernel_rfl) (fun _ _ _ h => h) (Or.inl ⟨by rfl, ?_⟩) (by assumption) ?_
              (rotate_left); (focus (intro wv hSw; (obtain ⟨qP, qQ, qR, qB⟩ := hSw); obtain ⟨_, _, _, _, _⟩ := blk2 qP; obtain ⟨_, _, _, _, _, _, _, _, _, _, _⟩ := blk5 qQ; obtain ⟨_, _, _, _, _, _, _⟩ := blk3 qR; go_simp; (try with_reducible rfl)))
              try simp only [Act.put, List.getElem_toArray, List.getElem_cons_succ, List.getElem_cons_zero, List.setIfInBounds_toArray, List.set_cons_zero, List.set_cons_succ]
              refine wpAnyH_take (i := 20) (oi := _) (v := ?_) rfl (by kernel_rfl) (by kernel_rfl) (by kernel_rfl) (fun _ _ _ h => h) (Or.inl ⟨by rfl, ?_⟩) (by assumption) ?_
              (rotate_left); (focus (intro wv hSw; (obtain ⟨qP, qQ, qR, qB⟩ := hSw); obtain ⟨_, _, _, _, _⟩ := blk2 qP; obtain ⟨_, _, _, _, _, _, _, _, _, _, _⟩ := blk5 qQ; obtain ⟨_, _, _, _, _, _, _⟩ := blk3 qR; go_simp; (try with_reducible rfl)))
              try simp only [Act.put, List.getElem_toArray, List.getElem_cons_succ, List.getElem_cons_zero, List.setIfInBounds_toArray, List.set_cons_zero, List.set_cons_succ]
              refine wpAnyH_take (i := 21) (oi := _) (v := ?_) rfl (by kernel_rfl) (by kernel_rfl) (by kernel_rfl) (fun _ _ _ h => h) (Or.inl ⟨by rfl, ?_⟩) (by assumption) ?_
              (rotate_left); (focus (intro wv hSw; (obtain ⟨qP, qQ, qR, qB⟩ := hSw); obtain ⟨_, _, _, _, _⟩ := blk2 qP; obtain ⟨_, _, _, _, _, _, _, _, _, _, _⟩ := blk5 qQ; obtain ⟨_, _, _, _, _, _, _⟩ := blk3 qR; go_simp; (try with_reducible rfl)))
              try simp only [Act.put, List.getElem_toArray, List.getElem_cons_succ, List.getElem_cons_zero, List.setIfInBounds_toArray, List.set_cons_zero, List.set_cons_succ]
              refine wpAnyH_take (i := 22) (oi := _) (v := ?_) rfl (by kernel_rfl) (by kernel_rfl) (by kernel_rfl) (fun _ _ _ h => h) (Or.inl ⟨by rfl, ?_⟩) (by assumption) ?_
              (rotate_left); (focus (intro wv hSw; (obtain ⟨qP, qQ, qR, qB⟩ := hSw); obtain ⟨_, _, _, _, _⟩ := blk2 qP; obtain ⟨_, _, _, _, _, _, _, _, _, _, _⟩ := blk5 qQ; obtain ⟨_, _, _, _, _, _, _⟩ := blk3 qR; go_simp; (try with_reducible rfl)))
              try simp only [Act.put, List.getElem_toArray, List.getElem_cons_succ, List.getElem_cons_zero, List.setIfInBounds_toArray, List.set_cons_zero, List.set_cons_succ]
              refine wpAnyH_take (i := 23) (oi := _) (v := ?_) rfl (by kernel_rfl) (by kernel_rfl) (by kernel_rfl) (fun _ _ _ h => h) (Or.inl ⟨by rfl, ?_⟩) (by assumption) ?_
              (rotate_left); (focus (intro wv hSw; (obtain ⟨qP, qQ, qR, qB⟩ := hSw); obtain ⟨_, _, _, _, _⟩ := blk2 qP; obtain ⟨_, _, _, _, _, _, _, _, _, _, _⟩ := blk5 qQ; obtain ⟨_, _, _, _, _, _, _⟩ := blk3 qR; go_simp; (try with_reducible rfl)))
              try simp only [Act.put, List.getElem_toArray, List.getElem_cons_succ, List.getElem_cons_zero, List.setIfInBounds_toArray, List.set_cons_zero, List.set_cons_succ]
              refine wpAnyH_take (i := 24) (oi := _) (v := ?_) rfl (by kernel_rfl) (by kernel_rfl) (by kernel_rfl) (fun _ _ _ h => h) (Or.inl ⟨by rfl, ?_⟩) (by assumption) ?_
              (rotate_left); (focus (intro wv hSw; (obtain ⟨qP, qQ, qR, qB⟩ := hSw); obtain ⟨_, _, _, _, _⟩ := blk2 qP; obtain ⟨_, _, _, _, _, _, _, _, _, _, _⟩ := blk5 qQ; obtain ⟨_, _, _, _, _, _, _⟩ := blk3 qR; go_simp; (try with_reducible rfl)))
              try simp only [Act.put, List.getElem_toArray, List.getElem_cons_succ, List.getElem_cons_zero, List.setIfInBounds_toArray, List.set_cons_zero, List.set_cons_succ]
              refine wpAnyH_take (i := 25) (oi := _) (v := ?_) rfl (by kernel_rfl) (by kernel_rfl) (by kernel_rfl) (fun _ _ _ h => h) (Or.inl ⟨by rfl, ?_⟩) (by assumption) ?_
              (rotate_left); (focus (intro wv hSw; (obtain ⟨qP, qQ, qR, qB⟩ := hSw); obtain ⟨_, _, _, _, _⟩ := blk2 qP; obtain ⟨_, _, _, _, _, _, _, _, _, _, _⟩ := blk5 qQ; obtain ⟨_, _, _, _, _, _, _⟩ := blk3 qR; go_simp; (try with_reducible rfl)))
              try simp only [Act.put, List.getElem_toArray, List.getElem_cons_succ, List.getElem_cons_zero, List.setIfInBounds_toArray, List.set_cons_zero, List.set_cons_succ]
              refine wpAnyH_take (i := 26) (oi := _) (v := ?_) rfl (by kernel_rfl) (by kernel_rfl) (by kernel_rfl) (fun _ _ _ h => h) (Or.inl ⟨by rfl, ?_⟩) (by assumption) ?_
              (rotate_left); (focus (intro wv hSw; (obtain ⟨qP, qQ, qR, qB⟩ := hSw); obtain ⟨_, _, _, _, _⟩ := blk2 qP; obtain ⟨_, _, _, _, _, _, _, _, _, _, _⟩ := blk5 qQ; obtain ⟨_, _, _, _, _, _, _⟩ := blk3 qR; go_simp; (try with_reducible rfl)))
              try simp only [Act.put, List.getElem_toArray, List.getElem_cons_succ, List.getElem_cons_zero, List.setIfInBounds_toArray, List.set_cons_zero, List.set_cons_succ]
              refine wpAnyH_take (i := 27) (oi := _) (v := ?_) rfl (by kernel_rfl) (by kernel_rfl) (by kernel_rfl) (fun _ _ _ h => h) (Or.inl ⟨by rfl, ?_⟩) (by assumption) ?_
              (rotate_left); (focus (intro wv hSw; (obtain ⟨qP, qQ, qR, qB⟩ := hSw); obtain ⟨_, _, _, _, _⟩ := blk2 qP; obtain ⟨_, _, _, _, _, _, _, _, _, _, _⟩ := blk5 qQ; obtain ⟨_, _, _, _, _, _, _⟩ := blk3 qR; go_simp; (try with_reducible rfl)))
              try simp only [Act.put, List.getElem_toArray, List.getElem_cons_succ, List.getElem_cons_zero, List.setIfInBounds_toArray, List.set_cons_zero, List.set_cons_succ]
              refine wpAnyH_done (by kernel_rfl) ?_ _
              go_wp2_with fail
              go_meet
              exact ⟨rfl, rfl, rfl, rfl, hB_0a14a6l17l9q⟩
          · obtain ⟨l0_0a14l17, l1_0a14l17, _, _, _⟩ := blk2 hN_0a14
            go_simp
            refine hK.out _ _ ⟨hP_0a14, hQ_0a14, hR_0a14, hB_0a14⟩ (fun hHeld => ?_)
            clear hK K
            try simp only [Act.put, List.getElem_toArray, List.getElem_cons_succ, List.getElem_cons_zero, List.setIfInBounds_toArray, List.set_cons_zero, List.set_cons_succ]
            obtain ⟨hP_0a14l17, hQ_0a14l17, hR_0a14l17, hB_0a14l17⟩ := id hHeld
            have hN_0a14l17 := hN_0a14
            refine wpAnyH_ready (rs := [6]) (by kernel_rfl) (by simp) ?_
            refine AllReadyH.cons (o := _) rfl (fun K hK => ?_) (AllReadyH.nil)
            go_simp
            refine hK.out _ _ ⟨blk_old hP_0a14l17 _, blk_old hQ_0a14l17 _, blk_old hR_0a14l17 _, hB_0a14l17.alloc (by have := hB_0a14l17.size; omega) _⟩ (fun hHeld => ?_)
            clear hK K
            try simp only [Act.put, List.getElem_toArray, List.getElem_cons_succ, List.getElem_cons_zero, List.setIfInBounds_toArray, List.set_cons_zero, List.set_cons_succ]
            obtain ⟨hP_0a14l17a6, hQ_0a14l17a6, hR_0a14l17a6, hB_0a14l17a6⟩ := id hHeld
            have hN_0a14l17a6 := blk_old hN_0a14l17 (.cells #[.int .i64 a, .int .i64 c] 3)
            have hM_0a14l17a6 : ((((wr.alloc (.cells #[.int .i64 pe, .int .i64 pn] 3)).alloc (.cells #[.int .i64 re, .int .i64 rn] 3)).drew.alloc (.cells #[.int .i64 b, .int .i64 d] 3)).alloc (.cells #[.int .i64 a, .int .i64 c] 3)).heap[wr.heap.size + 1 + 1 + 1]? = some (.cells #[.int .i64 a, .int .i64 c] 3) := by have := blk_new ((((wr.alloc (.cells #[.int .i64 pe, .int .i64 pn] 3)).alloc (.cells #[.int .i64 re, .int .i64 rn] 3)).drew.alloc (.cells #[.int .i64 b, .int .i64 d] 3))) (.cells #[.int .i64 a, .int .i64 c] 3); simpa using this
            refine wpAnyH_take (i := 8) (oi := _) (v := ?_) rfl (by kernel_rfl) (by kernel_rfl) (by kernel_rfl) (fun _ _ _ h => h) (Or.inl ⟨by rfl, ?_⟩) (by assumption) ?_
            (rotate_left); (focus (intro wv hSw; (obtain ⟨qP, qQ, qR, qB⟩ := hSw); obtain ⟨_, _, _, _, _⟩ := blk2 qP; obtain ⟨_, _, _, _, _, _, _, _, _, _, _⟩ := blk5 qQ; obtain ⟨_, _, _, _, _, _, _⟩ := blk3 qR; go_simp; (try with_reducible rfl)))
            try simp only [Act.put, List.getElem_toArray, List.getElem_cons_succ, List.getElem_cons_zero, List.setIfInBounds_toArray, List.set_cons_zero, List.set_cons_succ]
            refine wpAnyH_ready (rs := [9]) (by kernel_rfl) (by simp) ?_
            refine AllReadyH.cons (o := _) rfl (fun K hK => ?_) (AllReadyH.nil)
            obtain ⟨l0_0a14l17a6l9, l1_0a14l17a6l9, _, _, _⟩ := blk2 hM_0a14l17a6
            go_simp
            refine hK.out _ _ ⟨hP_0a14l17a6, hQ_0a14l17a6, hR_0a14l17a6, hB_0a14l17a6⟩ (fun hHeld => ?_)
            clear hK K
            try simp only [Act.put, List.getElem_toArray, List.getElem_cons_succ, List.getElem_cons_zero, List.setIfInBounds_toArray, List.set_cons_zero, List.set_cons_succ]
            obtain ⟨hP_0a14l17a6l9, hQ_0a14l17a6l9, hR_0a14l17a6l9, hB_0a14l17a6l9⟩ := id hHeld
            have hN_0a14l17a6l9 := hN_0a14l17a6
            have hM_0a14l17a6l9 := hM_0a14l17a6
            refine wpAnyH_ready (rs := [18]) (by kernel_rfl) (by simp) ?_
            refine AllReadyH.cons (o := _) rfl (fun K hK => ?_) AllReadyH.nil
            go_simp
            (go_at_call 144; refine (side5_any pe re a b _ (by omega) (by omega) (by omega) (by omega) (by omega) (by omega) (by omega) (by omega)).mono ?_; rintro E x' ⟨rfl, rfl⟩)
            refine hK.out _ _ ⟨hP_0a14l17a6l9, hQ_0a14l17a6l9, hR_0a14l17a6l9, hB_0a14l17a6l9⟩ (fun hHeld => ?_)
            clear hK K
            try simp only [Act.put, List.getElem_toArray, List.getElem_cons_succ, List.getElem_cons_zero, List.setIfInBounds_toArray, List.set_cons_zero, List.set_cons_succ]
            obtain ⟨hP_0a14l17a6l9q, hQ_0a14l17a6l9q, hR_0a14l17a6l9q, hB_0a14l17a6l9q⟩ := id hHeld
            refine wpAnyH_take (i := 19) (oi := _) (v := ?_) rfl (by kernel_rfl) (by kernel_rfl) (by kernel_rfl) (fun _ _ _ h => h) (Or.inl ⟨by rfl, ?_⟩) (by assumption) ?_
            (rotate_left); (focus (intro wv hSw; (obtain ⟨qP, qQ, qR, qB⟩ := hSw); obtain ⟨_, _, _, _, _⟩ := blk2 qP; obtain ⟨_, _, _, _, _, _, _, _, _, _, _⟩ := blk5 qQ; obtain ⟨_, _, _, _, _, _, _⟩ := blk3 qR; go_simp; (try with_reducible rfl)))
            try simp only [Act.put, List.getElem_toArray, List.getElem_cons_succ, List.getElem_cons_zero, List.setIfInBounds_toArray, List.set_cons_zero, List.set_cons_succ]
            refine wpAnyH_take (i := 20) (oi := _) (v := ?_) rfl (by kernel_rfl) (by kernel_rfl) (by kernel_rfl) (fun _ _ _ h => h) (Or.inl ⟨by rfl, ?_⟩) (by assumption) ?_
            (rotate_left); (focus (intro wv hSw; (obtain ⟨qP, qQ, qR, qB⟩ := hSw); obtain ⟨_, _, _, _, _⟩ := blk2 qP; obtain ⟨_, _, _, _, _, _, _, _, _, _, _⟩ := blk5 qQ; obtain ⟨_, _, _, _, _, _, _⟩ := blk3 qR; go_simp; (try with_reducible rfl)))
            try simp only [Act.put, List.getElem_toArray, List.getElem_cons_succ, List.getElem_cons_zero, List.setIfInBounds_toArray, List.set_cons_zero, List.set_cons_succ]
            refine wpAnyH_take (i := 21) (oi := _) (v := ?_) rfl (by kernel_rfl) (by kernel_rfl) (by kernel_rfl) (fun _ _ _ h => h) (Or.inl ⟨by rfl, ?_⟩) (by assumption) ?_
            (rotate_left); (focus (intro wv hSw; (obtain ⟨qP, qQ, qR, qB⟩ := hSw); obtain ⟨_, _, _, _, _⟩ := blk2 qP; obtain ⟨_, _, _, _, _, _, _, _, _, _, _⟩ := blk5 qQ; obtain ⟨_, _, _, _, _, _, _⟩ := blk3 qR; go_simp; (try with_reducible rfl)))
            try simp only [Act.put, List.getElem_toArray, List.getElem_cons_succ, List.getElem_cons_zero, List.setIfInBounds_toArray, List.set_cons_zero, List.set_cons_succ]
            refine wpAnyH_take (i := 22) (oi := _) (v := ?_) rfl (by kernel_rfl) (by kernel_rfl) (by kernel_rfl) (fun _ _ _ h => h) (Or.inl ⟨by rfl, ?_⟩) (by assumption) ?_
            (rotate_left); (focus (intro wv hSw; (obtain ⟨qP, qQ, qR, qB⟩ := hSw); obtain ⟨_, _, _, _, _⟩ := blk2 qP; obtain ⟨_, _, _, _, _, _, _, _, _, _, _⟩ := blk5 qQ; obtain ⟨_, _, _, _, _, _, _⟩ := blk3 qR; go_simp; (try with_reducible rfl)))
            try simp only [Act.put, List.getElem_toArray, List.getElem_cons_succ, List.getElem_cons_zero, List.setIfInBounds_toArray, List.set_cons_zero, List.set_cons_succ]
            refine wpAnyH_take (i := 23) (oi := _) (v := ?_) rfl (by kernel_rfl) (by kernel_rfl) (by kernel_rfl) (fun _ _ _ h => h) (Or.inl ⟨by rfl, ?_⟩) (by assumption) ?_
            (rotate_left); (focus (intro wv hSw; (obtain ⟨qP, qQ, qR, qB⟩ := hSw); obtain ⟨_, _, _, _, _⟩ := blk2 qP; obtain ⟨_, _, _, _, _, _, _, _, _, _, _⟩ := blk5 qQ; obtain ⟨_, _, _, _, _, _, _⟩ := blk3 qR; go_simp; (try with_reducible rfl)))
            try simp only [Act.put, List.getElem_toArray, List.getElem_cons_succ, List.getElem_cons_zero, List.setIfInBounds_toArray, List.set_cons_zero, List.set_cons_succ]
            refine wpAnyH_take (i := 24) (oi := _) (v := ?_) rfl (by kernel_rfl) (by kernel_rfl) (by kernel_rfl) (fun _ _ _ h => h) (Or.inl ⟨by rfl, ?_⟩) (by assumption) ?_
            (rotate_left); (focus (intro wv hSw; (obtain ⟨qP, qQ, qR, qB⟩ := hSw); obtain ⟨_, _, _, _, _⟩ := blk2 qP; obtain ⟨_, _, _, _, _, _, _, _, _, _, _⟩ := blk5 qQ; obtain ⟨_, _, _, _, _, _, _⟩ := blk3 qR; go_simp; (try with_reducible rfl)))
            try simp only [Act.put, List.getElem_toArray, List.getElem_cons_succ, List.getElem_cons_zero, List.setIfInBounds_toArray, List.set_cons_zero, List.set_cons_succ]
            refine wpAnyH_take (i := 25) (oi := _) (v := ?_) rfl (by kernel_rfl) (by kernel_rfl) (by kernel_rfl) (fun _ _ _ h => h) (Or.inl ⟨by rfl, ?_⟩) (by assumption) ?_
            (rotate_left); (focus (intro wv hSw; (obtain ⟨qP, qQ, qR, qB⟩ := hSw); obtain ⟨_, _, _, _, _⟩ := blk2 qP; obtain ⟨_, _, _, _, _, _, _, _, _, _, _⟩ := blk5 qQ; obtain ⟨_, _, _, _, _, _, _⟩ := blk3 qR; go_simp; (try with_reducible rfl)))
            try simp only [Act.put, List.getElem_toArray, List.getElem_cons_succ, List.getElem_cons_zero, List.setIfInBounds_toArray, List.set_cons_zero, List.set_cons_succ]
            refine wpAnyH_take (i := 26) (oi := _) (v := ?_) rfl (by kernel_rfl) (by kernel_rfl) (by kernel_rfl) (fun _ _ _ h => h) (Or.inl ⟨by rfl, ?_⟩) (by assumption) ?_
            (rotate_left); (focus (intro wv hSw; (obtain ⟨qP, qQ, qR, qB⟩ := hSw); obtain ⟨_, _, _, _, _⟩ := blk2 qP; obtain ⟨_, _, _, _, _, _, _, _, _, _, _⟩ := blk5 qQ; obtain ⟨_, _, _, _, _, _, _⟩ := blk3 qR; go_simp; (try with_reducible rfl)))
            try simp only [Act.put, List.getElem_toArray, List.getElem_cons_succ, List.getElem_cons_zero, List.setIfInBounds_toArray, List.set_cons_zero, List.set_cons_succ]
            refine wpAnyH_take (i := 27) (oi := _) (v := ?_) rfl (by kernel_rfl) (by kernel_rfl) (by kernel_rfl) (fun _ _ _ h => h) (Or.inl ⟨by rfl, ?_⟩) (by assumption) ?_
            (rotate_left); (focus (intro wv hSw; (obtain ⟨qP, qQ, qR, qB⟩ := hSw); obtain ⟨_, _, _, _, _⟩ := blk2 qP; obtain ⟨_, _, _, _, _, _, _, _, _, _, _⟩ := blk5 qQ; obtain ⟨_, _, _, _, _, _, _⟩ := blk3 qR; go_simp; (try with_reducible rfl)))
            try simp only [Act.put, List.getElem_toArray, List.getElem_cons_succ, List.getElem_cons_zero, List.setIfInBounds_toArray, List.set_cons_zero, List.set_cons_succ]
            refine wpAnyH_done (by kernel_rfl) ?_ _
            go_wp2_with fail
            go_meet
            exact ⟨rfl, rfl, rfl, rfl, hB_0a14l17a6l9q⟩
      case rest =>
        obtain ⟨rfl, rfl, rfl, rfl, hwx⟩ := hcut
        have hSx := hS0.next hwx
        clear hP hQ hR hB hA hS0 cP0 cP1 zP cQ0 cQ1 cQ2 cQ3 cQ4 zQ cR0 cR1 cR2 zR
        by_cases hr : re = 0
        · have hT : (triAt pe pn a b c d h re rn ru 1) = (triAt pe pn a b c d h re rn ru 0) := by rw [show (triAt pe pn a b c d h re rn ru 1) = addT (triAt pe pn a b c d h re rn ru 0) pe re a b from rfl, hr, addT_zero]
          have hde : de5 re = 0 := by rw [hr]; rfl
          rw [hde]
          clear hde
          have HR := Lib.hid hr
          have HT := Lib.hid hT
          clear hr hT
          obtain ⟨v, hv⟩ : ∃ v, ok5 pe re a b = v := ⟨_, rfl⟩
          rw [hv]
          have HV := Lib.hid hv
          clear hv
          cases v
          · go_wp2_with fail
            go_ret
            exact ⟨ret_bool (by rw [decide_eq_false (prM_f1 HV.out)]), hSx.2.2.2.1⟩
          · go_wp2_with fail
            go_roundw
            case rel => exact ⟨1, n, ga, ca, gb, cb, gc, cc, by omega, n0, by omega, Lib.hid (by rw [HT.out]; exact HN.out), Lib.hid ⟨fun _ => HV.out, fun h => by omega⟩, by go_num, rfl, rfl, rfl, by rw [HT.out]; exact hSx⟩
            case measure => simp [intOf]
        · have hT : (triAt pe pn a b c d h re rn ru 1) = (triAt pe pn a b c d h re rn ru 0) ++ [(sN pe re a b, eN pe re a b, dN re)] := by rw [show (triAt pe pn a b c d h re rn ru 1) = addT (triAt pe pn a b c d h re rn ru 0) pe re a b from rfl, addT_go hr]
          have hok := ok5_eq (p := pe) (lo := a) (hi := b) hr
          rw [lo5_eq hr, hi5_eq hr, de5_eq hr, hok]
          have hd := dN_pos re
          obtain ⟨s, hs⟩ : ∃ s, sN pe re a b = s := ⟨_, rfl⟩
          obtain ⟨e, he⟩ : ∃ e, eN pe re a b = e := ⟨_, rfl⟩
          obtain ⟨dd, hdd⟩ : ∃ dd, dN re = dd := ⟨_, rfl⟩
          rw [hs, he, hdd]
          rw [hs, he, hdd] at hT
          rw [hdd] at hd
          have HT := Lib.hid hT
          have HV := Lib.hid hok
          clear hs he hdd hT hok hr
          have hX0 : Sx w (.cells #[.int .i64 pe, .int .i64 pn] 25) (.cells #[.int .i64 a, .int .i64 b, .int .i64 c, .int .i64 d, .int .i64 h] 40) (.cells #[.int .i64 re, .int .i64 rn, .int .i64 ru] 43) ga ca (losT (triAt pe pn a b c d h re rn ru 0)) gb cb (hisT (triAt pe pn a b c d h re rn ru 0)) gc cc (desT (triAt pe pn a b c d h re rn ru 0)) wc := hSx
          clear hSx
          have hle0 : w.heap.size + 3 ≤ wc.heap.size := by have h1 := own_lt hX0.2.2.2.2.1; have h2 := own_ge hX0.2.2.2.2.1; omega
          go_wp2_with (first | (at_builtin; refine wpList_append_lies _ rfl (.tmp 74) (.tmp 76) _ rfl (w.heap.size + 3) 3 i0 _ 1 8 Tryz.underlying51 HI.out.1 HI.out.2.1 HI.out.2.2.1 HI.out.2.2.2 rfl (by omega) (.slice (some ⟨ga, 0, none⟩) n ca) n (ints (losT (triAt pe pn a b c d h re rn ru 0))) rfl (by have := hX0.2.2.2.2.1.alloc (.cells #[.int .i64 s] 3); unfold OwnI at this; rwa [losT_len, HN.out] at this) ⟨wc.heap.size, 0, none⟩ 1 1 [.int .i64 s] rfl rfl (new_one wc _) (one_cell _) (by omega) (by simp only [maxLen]; omega) (by omega) (by simp <;> omega) _ rfl ?_; intro g5 p5 w5 hown5 hgr5 hat5 hlt5; have hX1 := (hX0.app (by rw [losT_len, HN.out]) hown5 hgr5 hat5).rot; clear hX0 hown5 hgr5 hat5; have hle1 : w.heap.size + 3 ≤ w5.heap.size := (by have h1 := own_lt hX1.2.2.2.2.1; have h2 := own_ge hX1.2.2.2.2.1; omega)) | (at_builtin; refine wpList_append_lies _ rfl (.tmp 78) (.tmp 80) _ rfl (w.heap.size + 3) 3 i0 _ 1 8 Tryz.underlying51 HI.out.1 HI.out.2.1 HI.out.2.2.1 HI.out.2.2.2 rfl (by omega) (.slice (some ⟨gb, 0, none⟩) n cb) n (ints (hisT (triAt pe pn a b c d h re rn ru 0))) rfl (by have := hX1.2.2.2.2.1.alloc (.cells #[.int .i64 e] 3); unfold OwnI at this; rwa [hisT_len, HN.out] at this) ⟨w5.heap.size, 0, none⟩ 1 1 [.int .i64 e] rfl rfl (new_one w5 _) (one_cell _) (by omega) (by simp only [maxLen]; omega) (by omega) (by simp <;> omega) _ rfl ?_; intro g6 p6 w6 hown6 hgr6 hat6 hlt6; have hX2 := (hX1.app (by rw [hisT_len, HN.out]) hown6 hgr6 hat6).rot; clear hX1 hown6 hgr6 hat6; have hle2 : w.heap.size + 3 ≤ w6.heap.size := (by have h1 := own_lt hX2.2.2.2.2.1; have h2 := own_ge hX2.2.2.2.2.1; omega)) | (at_builtin; refine wpList_append_lies _ rfl (.tmp 82) (.tmp 84) _ rfl (w.heap.size + 3) 3 i0 _ 1 8 Tryz.underlying51 HI.out.1 HI.out.2.1 HI.out.2.2.1 HI.out.2.2.2 rfl (by omega) (.slice (some ⟨gc, 0, none⟩) n cc) n (ints (desT (triAt pe pn a b c d h re rn ru 0))) rfl (by have := hX2.2.2.2.2.1.alloc (.cells #[.int .i64 dd] 3); unfold OwnI at this; rwa [desT_len, HN.out] at this) ⟨w6.heap.size, 0, none⟩ 1 1 [.int .i64 dd] rfl rfl (new_one w6 _) (one_cell _) (by omega) (by simp only [maxLen]; omega) (by omega) (by simp <;> omega) _ rfl ?_; intro g7 p7 w7 hown7 hgr7 hat7 hlt7; have hX3 := (hX2.app (by rw [desT_len, HN.out]) hown7 hgr7 hat7).rot; clear hX2 hown7 hgr7 hat7; have hle3 : w.heap.size + 3 ≤ w7.heap.size := (by have h1 := own_lt hX3.2.2.2.2.1; have h2 := own_ge hX3.2.2.2.2.1; omega)))
          go_roundw
          case rel => exact ⟨1, n + 1, g5, p5, g6, p6, g7, p7, by omega, by omega, by omega, Lib.hid (by rw [HT.out, List.length_append, HN.out]; rfl), Lib.hid ⟨fun _ => HV.out, fun h => by omega⟩, by go_num, rfl, rfl, rfl, by rw [HT.out]; unfold St; rw [losT_snoc, hisT_snoc, desT_snoc]; exact hX3⟩
          case measure => simp [intOf]
    · have hS1 := hS
      obtain ⟨hP, hQ, hR, hB, hA⟩ := hS
      obtain ⟨cP0, cP1, _, _, zP⟩ := blk2 hP
      obtain ⟨cQ0, cQ1, cQ2, cQ3, cQ4, _, _, _, _, _, zQ⟩ := blk5 hQ
      obtain ⟨cR0, cR1, cR2, _, _, _, zR⟩ := blk3 hR
      go_upto_region 9 with fail
      go_cut [13, 14, 15, 16] from 26 to 85 (fun s13 s14 s15 s16 wx => s13 = .int .i64 (lo5 pn rn c d) ∧ s14 = .int .i64 (hi5 pn rn c d) ∧ s15 = .int .i64 (de5 rn) ∧ s16 = .bool (ok5 pn rn c d) ∧ Below wr.heap.size wr wx)
      case first =>
        try go_wp2_with fail
        refine wp_region_held_drew (S := (fun w' => w'.heap[w.heap.size]? = some (.cells #[.int .i64 pe, .int .i64 pn] 25) ∧ w'.heap[w.heap.size + 1]? = some (.cells #[.int .i64 a, .int .i64 b, .int .i64 c, .int .i64 d, .int .i64 h] 40) ∧ w'.heap[w.heap.size + 1 + 1]? = some (.cells #[.int .i64 re, .int .i64 rn, .int .i64 ru] 43) ∧ Below wr.heap.size wr w')) (by kernel_rfl) ⟨blk_old (blk_old hP _) _, blk_old (blk_old hQ _) _, blk_old (blk_old hR _) _, (bel2 wr _ _).drew⟩ (fun hHeld => ?_)
        obtain ⟨hP_0, hQ_0, hR_0, hB_0⟩ := id hHeld
        refine wpAnyH_take (i := 0) (oi := _) (v := ?_) rfl (by kernel_rfl) (by kernel_rfl) (by kernel_rfl) (fun _ _ _ h => h) (Or.inl ⟨by rfl, ?_⟩) (by assumption) ?_
        (rotate_left); (focus (intro wv hSw; (obtain ⟨qP, qQ, qR, qB⟩ := hSw); obtain ⟨_, _, _, _, _⟩ := blk2 qP; obtain ⟨_, _, _, _, _, _, _, _, _, _, _⟩ := blk5 qQ; obtain ⟨_, _, _, _, _, _, _⟩ := blk3 qR; go_simp; (try with_reducible rfl)))
        try simp only [Act.put, List.getElem_toArray, List.getElem_cons_succ, List.getElem_cons_zero, List.setIfInBounds_toArray, List.set_cons_zero, List.set_cons_succ]
        refine wpAnyH_take (i := 1) (oi := _) (v := ?_) rfl (by kernel_rfl) (by kernel_rfl) (by kernel_rfl) (fun _ _ _ h => h) (Or.inl ⟨by rfl, ?_⟩) (by assumption) ?_
        (rotate_left); (focus (intro wv hSw; (obtain ⟨qP, qQ, qR, qB⟩ := hSw); obtain ⟨_, _, _, _, _⟩ := blk2 qP; obtain ⟨_, _, _, _, _, _, _, _, _, _, _⟩ := blk5 qQ; obtain ⟨_, _, _, _, _, _, _⟩ := blk3 qR; go_simp; (try with_reducible rfl)))
        try simp only [Act.put, List.getElem_toArray, List.getElem_cons_succ, List.getElem_cons_zero, List.setIfInBounds_toArray, List.set_cons_zero, List.set_cons_succ]
        refine wpAnyH_take (i := 2) (oi := _) (v := ?_) rfl (by kernel_rfl) (by kernel_rfl) (by kernel_rfl) (fun _ _ _ h => h) (Or.inl ⟨by rfl, ?_⟩) (by assumption) ?_
        (rotate_left); (focus (intro wv hSw; (obtain ⟨qP, qQ, qR, qB⟩ := hSw); obtain ⟨_, _, _, _, _⟩ := blk2 qP; obtain ⟨_, _, _, _, _, _, _, _, _, _, _⟩ := blk5 qQ; obtain ⟨_, _, _, _, _, _, _⟩ := blk3 qR; go_simp; (try with_reducible rfl)))
        try simp only [Act.put, List.getElem_toArray, List.getElem_cons_succ, List.getElem_cons_zero, List.setIfInBounds_toArray, List.set_cons_zero, List.set_cons_succ]
        refine wpAnyH_take (i := 3) (oi := _) (v := ?_) rfl (by kernel_rfl) (by kernel_rfl) (by kernel_rfl) (fun _ _ _ h => h) (Or.inl ⟨by rfl, ?_⟩) (by assumption) ?_
        (rotate_left); (focus (intro wv hSw; (obtain ⟨qP, qQ, qR, qB⟩ := hSw); obtain ⟨_, _, _, _, _⟩ := blk2 qP; obtain ⟨_, _, _, _, _, _, _, _, _, _, _⟩ := blk5 qQ; obtain ⟨_, _, _, _, _, _, _⟩ := blk3 qR; go_simp; (try with_reducible rfl)))
        try simp only [Act.put, List.getElem_toArray, List.getElem_cons_succ, List.getElem_cons_zero, List.setIfInBounds_toArray, List.set_cons_zero, List.set_cons_succ]
        refine wpAnyH_take (i := 4) (oi := _) (v := ?_) rfl (by kernel_rfl) (by kernel_rfl) (by kernel_rfl) (fun _ _ _ h => h) (Or.inl ⟨by rfl, ?_⟩) (by assumption) ?_
        (rotate_left); (focus (intro wv hSw; (obtain ⟨qP, qQ, qR, qB⟩ := hSw); obtain ⟨_, _, _, _, _⟩ := blk2 qP; obtain ⟨_, _, _, _, _, _, _, _, _, _, _⟩ := blk5 qQ; obtain ⟨_, _, _, _, _, _, _⟩ := blk3 qR; go_simp; (try with_reducible rfl)))
        try simp only [Act.put, List.getElem_toArray, List.getElem_cons_succ, List.getElem_cons_zero, List.setIfInBounds_toArray, List.set_cons_zero, List.set_cons_succ]
        refine wpAnyH_take (i := 5) (oi := _) (v := ?_) rfl (by kernel_rfl) (by kernel_rfl) (by kernel_rfl) (fun _ _ _ h => h) (Or.inl ⟨by rfl, ?_⟩) (by assumption) ?_
        (rotate_left); (focus (intro wv hSw; (obtain ⟨qP, qQ, qR, qB⟩ := hSw); obtain ⟨_, _, _, _, _⟩ := blk2 qP; obtain ⟨_, _, _, _, _, _, _, _, _, _, _⟩ := blk5 qQ; obtain ⟨_, _, _, _, _, _, _⟩ := blk3 qR; go_simp; (try with_reducible rfl)))
        try simp only [Act.put, List.getElem_toArray, List.getElem_cons_succ, List.getElem_cons_zero, List.setIfInBounds_toArray, List.set_cons_zero, List.set_cons_succ]
        refine wpAnyH_take (i := 7) (oi := _) (v := ?_) rfl (by kernel_rfl) (by kernel_rfl) (by kernel_rfl) (fun _ _ _ h => h) (Or.inl ⟨by rfl, ?_⟩) (by assumption) ?_
        (rotate_left); (focus (intro wv hSw; (obtain ⟨qP, qQ, qR, qB⟩ := hSw); obtain ⟨_, _, _, _, _⟩ := blk2 qP; obtain ⟨_, _, _, _, _, _, _, _, _, _, _⟩ := blk5 qQ; obtain ⟨_, _, _, _, _, _, _⟩ := blk3 qR; go_simp; (try with_reducible rfl)))
        try simp only [Act.put, List.getElem_toArray, List.getElem_cons_succ, List.getElem_cons_zero, List.setIfInBounds_toArray, List.set_cons_zero, List.set_cons_succ]
        refine wpAnyH_take (i := 10) (oi := _) (v := ?_) rfl (by kernel_rfl) (by kernel_rfl) (by kernel_rfl) (fun _ _ _ h => h) (Or.inl ⟨by rfl, ?_⟩) (by assumption) ?_
        (rotate_left); (focus (intro wv hSw; (obtain ⟨qP, qQ, qR, qB⟩ := hSw); obtain ⟨_, _, _, _, _⟩ := blk2 qP; obtain ⟨_, _, _, _, _, _, _, _, _, _, _⟩ := blk5 qQ; obtain ⟨_, _, _, _, _, _, _⟩ := blk3 qR; go_simp; (try with_reducible rfl)))
        try simp only [Act.put, List.getElem_toArray, List.getElem_cons_succ, List.getElem_cons_zero, List.setIfInBounds_toArray, List.set_cons_zero, List.set_cons_succ]
        refine wpAnyH_take (i := 11) (oi := _) (v := ?_) rfl (by kernel_rfl) (by kernel_rfl) (by kernel_rfl) (fun _ _ _ h => h) (Or.inl ⟨by rfl, ?_⟩) (by assumption) ?_
        (rotate_left); (focus (intro wv hSw; (obtain ⟨qP, qQ, qR, qB⟩ := hSw); obtain ⟨_, _, _, _, _⟩ := blk2 qP; obtain ⟨_, _, _, _, _, _, _, _, _, _, _⟩ := blk5 qQ; obtain ⟨_, _, _, _, _, _, _⟩ := blk3 qR; go_simp; (try with_reducible rfl)))
        try simp only [Act.put, List.getElem_toArray, List.getElem_cons_succ, List.getElem_cons_zero, List.setIfInBounds_toArray, List.set_cons_zero, List.set_cons_succ]
        refine wpAnyH_take (i := 12) (oi := _) (v := ?_) rfl (by kernel_rfl) (by kernel_rfl) (by kernel_rfl) (fun _ _ _ h => h) (Or.inl ⟨by rfl, ?_⟩) (by assumption) ?_
        (rotate_left); (focus (intro wv hSw; (obtain ⟨qP, qQ, qR, qB⟩ := hSw); obtain ⟨_, _, _, _, _⟩ := blk2 qP; obtain ⟨_, _, _, _, _, _, _, _, _, _, _⟩ := blk5 qQ; obtain ⟨_, _, _, _, _, _, _⟩ := blk3 qR; go_simp; (try with_reducible rfl)))
        try simp only [Act.put, List.getElem_toArray, List.getElem_cons_succ, List.getElem_cons_zero, List.setIfInBounds_toArray, List.set_cons_zero, List.set_cons_succ]
        refine wpAnyH_take (i := 13) (oi := _) (v := ?_) rfl (by kernel_rfl) (by kernel_rfl) (by kernel_rfl) (fun _ _ _ h => h) (Or.inl ⟨by rfl, ?_⟩) (by assumption) ?_
        (rotate_left); (focus (intro wv hSw; (obtain ⟨qP, qQ, qR, qB⟩ := hSw); obtain ⟨_, _, _, _, _⟩ := blk2 qP; obtain ⟨_, _, _, _, _, _, _, _, _, _, _⟩ := blk5 qQ; obtain ⟨_, _, _, _, _, _, _⟩ := blk3 qR; go_simp; (try with_reducible rfl)))
        try simp only [Act.put, List.getElem_toArray, List.getElem_cons_succ, List.getElem_cons_zero, List.setIfInBounds_toArray, List.set_cons_zero, List.set_cons_succ]
        refine wpAnyH_take (i := 15) (oi := _) (v := ?_) rfl (by kernel_rfl) (by kernel_rfl) (by kernel_rfl) (fun _ _ _ h => h) (Or.inl ⟨by rfl, ?_⟩) (by assumption) ?_
        (rotate_left); (focus (intro wv hSw; (obtain ⟨qP, qQ, qR, qB⟩ := hSw); obtain ⟨_, _, _, _, _⟩ := blk2 qP; obtain ⟨_, _, _, _, _, _, _, _, _, _, _⟩ := blk5 qQ; obtain ⟨_, _, _, _, _, _, _⟩ := blk3 qR; go_simp; (try with_reducible rfl)))
        try simp only [Act.put, List.getElem_toArray, List.getElem_cons_succ, List.getElem_cons_zero, List.setIfInBounds_toArray, List.set_cons_zero, List.set_cons_succ]
        refine wpAnyH_ready (rs := [6, 14]) (by kernel_rfl) (by simp) ?_
        refine AllReadyH.cons (o := _) rfl (fun K hK => ?_) (AllReadyH.cons (o := _) rfl (fun K hK => ?_) (AllReadyH.nil))
        · go_simp
          refine hK.out _ _ ⟨blk_old hP_0 _, blk_old hQ_0 _, blk_old hR_0 _, hB_0.alloc (by have := hB_0.size; omega) _⟩ (fun hHeld => ?_)
          clear hK K
          try simp only [Act.put, List.getElem_toArray, List.getElem_cons_succ, List.getElem_cons_zero, List.setIfInBounds_toArray, List.set_cons_zero, List.set_cons_succ]
          obtain ⟨hP_0a6, hQ_0a6, hR_0a6, hB_0a6⟩ := id hHeld
          have hM_0a6 : (((wr.alloc (.cells #[.int .i64 pe, .int .i64 pn] 3)).alloc (.cells #[.int .i64 re, .int .i64 rn] 3)).drew.alloc (.cells #[.int .i64 a, .int .i64 c] 3)).heap[wr.heap.size + 1 + 1]? = some (.cells #[.int .i64 a, .int .i64 c] 3) := by have := blk_new (((wr.alloc (.cells #[.int .i64 pe, .int .i64 pn] 3)).alloc (.cells #[.int .i64 re, .int .i64 rn] 3)).drew) (.cells #[.int .i64 a, .int .i64 c] 3); simpa using this
          refine wpAnyH_take (i := 8) (oi := _) (v := ?_) rfl (by kernel_rfl) (by kernel_rfl) (by kernel_rfl) (fun _ _ _ h => h) (Or.inl ⟨by rfl, ?_⟩) (by assumption) ?_
          (rotate_left); (focus (intro wv hSw; (obtain ⟨qP, qQ, qR, qB⟩ := hSw); obtain ⟨_, _, _, _, _⟩ := blk2 qP; obtain ⟨_, _, _, _, _, _, _, _, _, _, _⟩ := blk5 qQ; obtain ⟨_, _, _, _, _, _, _⟩ := blk3 qR; go_simp; (try with_reducible rfl)))
          try simp only [Act.put, List.getElem_toArray, List.getElem_cons_succ, List.getElem_cons_zero, List.setIfInBounds_toArray, List.set_cons_zero, List.set_cons_succ]
          refine wpAnyH_ready (rs := [9, 14]) (by kernel_rfl) (by simp) ?_
          refine AllReadyH.cons (o := _) rfl (fun K hK => ?_) (AllReadyH.cons (o := _) rfl (fun K hK => ?_) (AllReadyH.nil))
          · obtain ⟨l0_0a6l9, l1_0a6l9, _, _, _⟩ := blk2 hM_0a6
            go_simp
            refine hK.out _ _ ⟨hP_0a6, hQ_0a6, hR_0a6, hB_0a6⟩ (fun hHeld => ?_)
            clear hK K
            try simp only [Act.put, List.getElem_toArray, List.getElem_cons_succ, List.getElem_cons_zero, List.setIfInBounds_toArray, List.set_cons_zero, List.set_cons_succ]
            obtain ⟨hP_0a6l9, hQ_0a6l9, hR_0a6l9, hB_0a6l9⟩ := id hHeld
            have hM_0a6l9 := hM_0a6
            refine wpAnyH_ready (rs := [14]) (by kernel_rfl) (by simp) ?_
            refine AllReadyH.cons (o := _) rfl (fun K hK => ?_) (AllReadyH.nil)
            go_simp
            refine hK.out _ _ ⟨blk_old hP_0a6l9 _, blk_old hQ_0a6l9 _, blk_old hR_0a6l9 _, hB_0a6l9.alloc (by have := hB_0a6l9.size; omega) _⟩ (fun hHeld => ?_)
            clear hK K
            try simp only [Act.put, List.getElem_toArray, List.getElem_cons_succ, List.getElem_cons_zero, List.setIfInBounds_toArray, List.set_cons_zero, List.set_cons_succ]
            obtain ⟨hP_0a6l9a14, hQ_0a6l9a14, hR_0a6l9a14, hB_0a6l9a14⟩ := id hHeld
            have hM_0a6l9a14 := blk_old hM_0a6l9 (.cells #[.int .i64 b, .int .i64 d] 3)
            have hN_0a6l9a14 : ((((wr.alloc (.cells #[.int .i64 pe, .int .i64 pn] 3)).alloc (.cells #[.int .i64 re, .int .i64 rn] 3)).drew.alloc (.cells #[.int .i64 a, .int .i64 c] 3)).alloc (.cells #[.int .i64 b, .int .i64 d] 3)).heap[wr.heap.size + 1 + 1 + 1]? = some (.cells #[.int .i64 b, .int .i64 d] 3) := by have := blk_new ((((wr.alloc (.cells #[.int .i64 pe, .int .i64 pn] 3)).alloc (.cells #[.int .i64 re, .int .i64 rn] 3)).drew.alloc (.cells #[.int .i64 a, .int .i64 c] 3))) (.cells #[.int .i64 b, .int .i64 d] 3); simpa using this
            refine wpAnyH_take (i := 16) (oi := _) (v := ?_) rfl (by kernel_rfl) (by kernel_rfl) (by kernel_rfl) (fun _ _ _ h => h) (Or.inl ⟨by rfl, ?_⟩) (by assumption) ?_
            (rotate_left); (focus (intro wv hSw; (obtain ⟨qP, qQ, qR, qB⟩ := hSw); obtain ⟨_, _, _, _, _⟩ := blk2 qP; obtain ⟨_, _, _, _, _, _, _, _, _, _, _⟩ := blk5 qQ; obtain ⟨_, _, _, _, _, _, _⟩ := blk3 qR; go_simp; (try with_reducible rfl)))
            try simp only [Act.put, List.getElem_toArray, List.getElem_cons_succ, List.getElem_cons_zero, List.setIfInBounds_toArray, List.set_cons_zero, List.set_cons_succ]
            refine wpAnyH_ready (rs := [17]) (by kernel_rfl) (by simp) ?_
            refine AllReadyH.cons (o := _) rfl (fun K hK => ?_) (AllReadyH.nil)
            obtain ⟨l0_0a6l9a14l17, l1_0a6l9a14l17, _, _, _⟩ := blk2 hN_0a6l9a14
            go_simp
            refine hK.out _ _ ⟨hP_0a6l9a14, hQ_0a6l9a14, hR_0a6l9a14, hB_0a6l9a14⟩ (fun hHeld => ?_)
            clear hK K
            try simp only [Act.put, List.getElem_toArray, List.getElem_cons_succ, List.getElem_cons_zero, List.setIfInBounds_toArray, List.set_cons_zero, List.set_cons_succ]
            obtain ⟨hP_0a6l9a14l17, hQ_0a6l9a14l17, hR_0a6l9a14l17, hB_0a6l9a14l17⟩ := id hHeld
            have hM_0a6l9a14l17 := hM_0a6l9a14
            have hN_0a6l9a14l17 := hN_0a6l9a14
            refine wpAnyH_ready (rs := [18]) (by kernel_rfl) (by simp) ?_
            refine AllReadyH.cons (o := _) rfl (fun K hK => ?_) AllReadyH.nil
            go_simp
            (go_at_call 144; refine (side5_any pn rn c d _ (by omega) (by omega) (by omega) (by omega) (by omega) (by omega) (by omega) (by omega)).mono ?_; rintro E x' ⟨rfl, rfl⟩)
            refine hK.out _ _ ⟨hP_0a6l9a14l17, hQ_0a6l9a14l17, hR_0a6l9a14l17, hB_0a6l9a14l17⟩ (fun hHeld => ?_)
            clear hK K
            try simp only [Act.put, List.getElem_toArray, List.getElem_cons_succ, List.getElem_cons_zero, List.setIfInBounds_toArray, List.set_cons_zero, List.set_cons_succ]
            obtain ⟨hP_0a6l9a14l17q, hQ_0a6l9a14l17q, hR_0a6l9a14l17q, hB_0a6l9a14l17q⟩ := id hHeld
            refine wpAnyH_take (i := 19) (oi := _) (v := ?_) rfl (by kernel_rfl) (by kernel_rfl) (by kernel_rfl) (fun _ _ _ h => h) (Or.inl ⟨by rfl, ?_⟩) (by assumption) ?_
            (rotate_left); (focus (intro wv hSw; (obtain ⟨qP, qQ, qR, qB⟩ := hSw); obtain ⟨_, _, _, _, _⟩ := blk2 qP; obtain ⟨_, _, _, _, _, _, _, _, _, _, _⟩ := blk5 qQ; obtain ⟨_, _, _, _, _, _, _⟩ := blk3 qR; go_simp; (try with_reducible rfl)))
            try simp only [Act.put, List.getElem_toArray, List.getElem_cons_succ, List.getElem_cons_zero, List.setIfInBounds_toArray, List.set_cons_zero, List.set_cons_succ]
            refine wpAnyH_take (i := 20) (oi := _) (v := ?_) rfl (by kernel_rfl) (by kernel_rfl) (by kernel_rfl) (fun _ _ _ h => h) (Or.inl ⟨by rfl, ?_⟩) (by assumption) ?_
            (rotate_left); (focus (intro wv hSw; (obtain ⟨qP, qQ, qR, qB⟩ := hSw); obtain ⟨_, _, _, _, _⟩ := blk2 qP; obtain ⟨_, _, _, _, _, _, _, _, _, _, _⟩ := blk5 qQ; obtain ⟨_, _, _, _, _, _, _⟩ := blk3 qR; go_simp; (try with_reducible rfl)))
            try simp only [Act.put, List.getElem_toArray, List.getElem_cons_succ, List.getElem_cons_zero, List.setIfInBounds_toArray, List.set_cons_zero, List.set_cons_succ]
            refine wpAnyH_take (i := 21) (oi := _) (v := ?_) rfl (by kernel_rfl) (by kernel_rfl) (by kernel_rfl) (fun _ _ _ h => h) (Or.inl ⟨by rfl, ?_⟩) (by assumption) ?_
            (rotate_left); (focus (intro wv hSw; (obtain ⟨qP, qQ, qR, qB⟩ := hSw); obtain ⟨_, _, _, _, _⟩ := blk2 qP; obtain ⟨_, _, _, _, _, _, _, _, _, _, _⟩ := blk5 qQ; obtain ⟨_, _, _, _, _, _, _⟩ := blk3 qR; go_simp; (try with_reducible rfl)))
            try simp only [Act.put, List.getElem_toArray, List.getElem_cons_succ, List.getElem_cons_zero, List.setIfInBounds_toArray, List.set_cons_zero, List.set_cons_succ]
            refine wpAnyH_take (i := 22) (oi := _) (v := ?_) rfl (by kernel_rfl) (by kernel_rfl) (by kernel_rfl) (fun _ _ _ h => h) (Or.inl ⟨by rfl, ?_⟩) (by assumption) ?_
            (rotate_left); (focus (intro wv hSw; (obtain ⟨qP, qQ, qR, qB⟩ := hSw); obtain ⟨_, _, _, _, _⟩ := blk2 qP; obtain ⟨_, _, _, _, _, _, _, _, _, _, _⟩ := blk5 qQ; obtain ⟨_, _, _, _, _, _, _⟩ := blk3 qR; go_simp; (try with_reducible rfl)))
            try simp only [Act.put, List.getElem_toArray, List.getElem_cons_succ, List.getElem_cons_zero, List.setIfInBounds_toArray, List.set_cons_zero, List.set_cons_succ]
            refine wpAnyH_take (i := 23) (oi := _) (v := ?_) rfl (by kernel_rfl) (by kernel_rfl) (by kernel_rfl) (fun _ _ _ h => h) (Or.inl ⟨by rfl, ?_⟩) (by assumption) ?_
            (rotate_left); (focus (intro wv hSw; (obtain ⟨qP, qQ, qR, qB⟩ := hSw); obtain ⟨_, _, _, _, _⟩ := blk2 qP; obtain ⟨_, _, _, _, _, _, _, _, _, _, _⟩ := blk5 qQ; obtain ⟨_, _, _, _, _, _, _⟩ := blk3 qR; go_simp; (try with_reducible rfl)))
            try simp only [Act.put, List.getElem_toArray, List.getElem_cons_succ, List.getElem_cons_zero, List.setIfInBounds_toArray, List.set_cons_zero, List.set_cons_succ]
            refine wpAnyH_take (i := 24) (oi := _) (v := ?_) rfl (by kernel_rfl) (by kernel_rfl) (by kernel_rfl) (fun _ _ _ h => h) (Or.inl ⟨by rfl, ?_⟩) (by assumption) ?_
            (rotate_left); (focus (intro wv hSw; (obtain ⟨qP, qQ, qR, qB⟩ := hSw); obtain ⟨_, _, _, _, _⟩ := blk2 qP; obtain ⟨_, _, _, _, _, _, _, _, _, _, _⟩ := blk5 qQ; obtain ⟨_, _, _, _, _, _, _⟩ := blk3 qR; go_simp; (try with_reducible rfl)))
            try simp only [Act.put, List.getElem_toArray, List.getElem_cons_succ, List.getElem_cons_zero, List.setIfInBounds_toArray, List.set_cons_zero, List.set_cons_succ]
            refine wpAnyH_take (i := 25) (oi := _) (v := ?_) rfl (by kernel_rfl) (by kernel_rfl) (by kernel_rfl) (fun _ _ _ h => h) (Or.inl ⟨by rfl, ?_⟩) (by assumption) ?_
            (rotate_left); (focus (intro wv hSw; (obtain ⟨qP, qQ, qR, qB⟩ := hSw); obtain ⟨_, _, _, _, _⟩ := blk2 qP; obtain ⟨_, _, _, _, _, _, _, _, _, _, _⟩ := blk5 qQ; obtain ⟨_, _, _, _, _, _, _⟩ := blk3 qR; go_simp; (try with_reducible rfl)))
            try simp only [Act.put, List.getElem_toArray, List.getElem_cons_succ, List.getElem_cons_zero, List.setIfInBounds_toArray, List.set_cons_zero, List.set_cons_succ]
            refine wpAnyH_take (i := 26) (oi := _) (v := ?_) rfl (by kernel_rfl) (by kernel_rfl) (by kernel_rfl) (fun _ _ _ h => h) (Or.inl ⟨by rfl, ?_⟩) (by assumption) ?_
            (rotate_left); (focus (intro wv hSw; (obtain ⟨qP, qQ, qR, qB⟩ := hSw); obtain ⟨_, _, _, _, _⟩ := blk2 qP; obtain ⟨_, _, _, _, _, _, _, _, _, _, _⟩ := blk5 qQ; obtain ⟨_, _, _, _, _, _, _⟩ := blk3 qR; go_simp; (try with_reducible rfl)))
            try simp only [Act.put, List.getElem_toArray, List.getElem_cons_succ, List.getElem_cons_zero, List.setIfInBounds_toArray, List.set_cons_zero, List.set_cons_succ]
            refine wpAnyH_take (i := 27) (oi := _) (v := ?_) rfl (by kernel_rfl) (by kernel_rfl) (by kernel_rfl) (fun _ _ _ h => h) (Or.inl ⟨by rfl, ?_⟩) (by assumption) ?_
            (rotate_left); (focus (intro wv hSw; (obtain ⟨qP, qQ, qR, qB⟩ := hSw); obtain ⟨_, _, _, _, _⟩ := blk2 qP; obtain ⟨_, _, _, _, _, _, _, _, _, _, _⟩ := blk5 qQ; obtain ⟨_, _, _, _, _, _, _⟩ := blk3 qR; go_simp; (try with_reducible rfl)))
            try simp only [Act.put, List.getElem_toArray, List.getElem_cons_succ, List.getElem_cons_zero, List.setIfInBounds_toArray, List.set_cons_zero, List.set_cons_succ]
            refine wpAnyH_done (by kernel_rfl) ?_ _
            go_wp2_with fail
            go_meet
            exact ⟨rfl, rfl, rfl, rfl, hB_0a6l9a14l17q⟩
          · go_simp
            refine hK.out _ _ ⟨blk_old hP_0a6 _, blk_old hQ_0a6 _, blk_old hR_0a6 _, hB_0a6.alloc (by have := hB_0a6.size; omega) _⟩ (fun hHeld => ?_)
            clear hK K
            try simp only [Act.put, List.getElem_toArray, List.getElem_cons_succ, List.getElem_cons_zero, List.setIfInBounds_toArray, List.set_cons_zero, List.set_cons_succ]
            obtain ⟨hP_0a6a14, hQ_0a6a14, hR_0a6a14, hB_0a6a14⟩ := id hHeld
            have hM_0a6a14 := blk_old hM_0a6 (.cells #[.int .i64 b, .int .i64 d] 3)
            have hN_0a6a14 : ((((wr.alloc (.cells #[.int .i64 pe, .int .i64 pn] 3)).alloc (.cells #[.int .i64 re, .int .i64 rn] 3)).drew.alloc (.cells #[.int .i64 a, .int .i64 c] 3)).alloc (.cells #[.int .i64 b, .int .i64 d] 3)).heap[wr.heap.size + 1 + 1 + 1]? = some (.cells #[.int .i64 b, .int .i64 d] 3) := by have := blk_new ((((wr.alloc (.cells #[.int .i64 pe, .int .i64 pn] 3)).alloc (.cells #[.int .i64 re, .int .i64 rn] 3)).drew.alloc (.cells #[.int .i64 a, .int .i64 c] 3))) (.cells #[.int .i64 b, .int .i64 d] 3); simpa using this
            refine wpAnyH_take (i := 16) (oi := _) (v := ?_) rfl (by kernel_rfl) (by kernel_rfl) (by kernel_rfl) (fun _ _ _ h => h) (Or.inl ⟨by rfl, ?_⟩) (by assumption) ?_
            (rotate_left); (focus (intro wv hSw; (obtain ⟨qP, qQ, qR, qB⟩ := hSw); obtain ⟨_, _, _, _, _⟩ := blk2 qP; obtain ⟨_, _, _, _, _, _, _, _, _, _, _⟩ := blk5 qQ; obtain ⟨_, _, _, _, _, _, _⟩ := blk3 qR; go_simp; (try with_reducible rfl)))
            try simp only [Act.put, List.getElem_toArray, List.getElem_cons_succ, List.getElem_cons_zero, List.setIfInBounds_toArray, List.set_cons_zero, List.set_cons_succ]
            refine wpAnyH_ready (rs := [9, 17]) (by kernel_rfl) (by simp) ?_
            refine AllReadyH.cons (o := _) rfl (fun K hK => ?_) (AllReadyH.cons (o := _) rfl (fun K hK => ?_) (AllReadyH.nil))
            · obtain ⟨l0_0a6a14l9, l1_0a6a14l9, _, _, _⟩ := blk2 hM_0a6a14
              go_simp
              refine hK.out _ _ ⟨hP_0a6a14, hQ_0a6a14, hR_0a6a14, hB_0a6a14⟩ (fun hHeld => ?_)
              clear hK K
              try simp only [Act.put, List.getElem_toArray, List.getElem_cons_succ, List.getElem_cons_zero, List.setIfInBounds_toArray, List.set_cons_zero, List.set_cons_succ]
              obtain ⟨hP_0a6a14l9, hQ_0a6a14l9, hR_0a6a14l9, hB_0a6a14l9⟩ := id hHeld
              have hM_0a6a14l9 := hM_0a6a14
              have hN_0a6a14l9 := hN_0a6a14
              refine wpAnyH_ready (rs := [17]) (by kernel_rfl) (by simp) ?_
              refine AllReadyH.cons (o := _) rfl (fun K hK => ?_) (AllReadyH.nil)
              obtain ⟨l0_0a6a14l9l17, l1_0a6a14l9l17, _, _, _⟩ := blk2 hN_0a6a14l9
              go_simp
              refine hK.out _ _ ⟨hP_0a6a14l9, hQ_0a6a14l9, hR_0a6a14l9, hB_0a6a14l9⟩ (fun hHeld => ?_)
              clear hK K
              try simp only [Act.put, List.getElem_toArray, List.getElem_cons_succ, List.getElem_cons_zero, List.setIfInBounds_toArray, List.set_cons_zero, List.set_cons_succ]
              obtain ⟨hP_0a6a14l9l17, hQ_0a6a14l9l17, hR_0a6a14l9l17, hB_0a6a14l9l17⟩ := id hHeld
              have hM_0a6a14l9l17 := hM_0a6a14l9
              have hN_0a6a14l9l17 := hN_0a6a14l9
              refine wpAnyH_ready (rs := [18]) (by kernel_rfl) (by simp) ?_
              refine AllReadyH.cons (o := _) rfl (fun K hK => ?_) AllReadyH.nil
              go_simp
              (go_at_call 144; refine (side5_any pn rn c d _ (by omega) (by omega) (by omega) (by omega) (by omega) (by omega) (by omega) (by omega)).mono ?_; rintro E x' ⟨rfl, rfl⟩)
              refine hK.out _ _ ⟨hP_0a6a14l9l17, hQ_0a6a14l9l17, hR_0a6a14l9l17, hB_0a6a14l9l17⟩ (fun hHeld => ?_)
              clear hK K
              try simp only [Act.put, List.getElem_toArray, List.getElem_cons_succ, List.getElem_cons_zero, List.setIfInBounds_toArray, List.set_cons_zero, List.set_cons_succ]
              obtain ⟨hP_0a6a14l9l17q, hQ_0a6a14l9l17q, hR_0a6a14l9l17q, hB_0a6a14l9l17q⟩ := id hHeld
              refine wpAnyH_take (i := 19) (oi := _) (v := ?_) rfl (by kernel_rfl) (by kernel_rfl) (by kernel_rfl) (fun _ _ _ h => h) (Or.inl ⟨by rfl, ?_⟩) (by assumption) ?_
              (rotate_left); (focus (intro wv hSw; (obtain ⟨qP, qQ, qR, qB⟩ := hSw); obtain ⟨_, _, _, _, _⟩ := blk2 qP; obtain ⟨_, _, _, _, _, _, _, _, _, _, _⟩ := blk5 qQ; obtain ⟨_, _, _, _, _, _, _⟩ := blk3 qR; go_simp; (try with_reducible rfl)))
              try simp only [Act.put, List.getElem_toArray, List.getElem_cons_succ, List.getElem_cons_zero, List.setIfInBounds_toArray, List.set_cons_zero, List.set_cons_succ]
              refine wpAnyH_take (i := 20) (oi := _) (v := ?_) rfl (by kernel_rfl) (by kernel_rfl) (by kernel_rfl) (fun _ _ _ h => h) (Or.inl ⟨by rfl, ?_⟩) (by assumption) ?_
              (rotate_left); (focus (intro wv hSw; (obtain ⟨qP, qQ, qR, qB⟩ := hSw); obtain ⟨_, _, _, _, _⟩ := blk2 qP; obtain ⟨_, _, _, _, _, _, _, _, _, _, _⟩ := blk5 qQ; obtain ⟨_, _, _, _, _, _, _⟩ := blk3 qR; go_simp; (try with_reducible rfl)))
              try simp only [Act.put, List.getElem_toArray, List.getElem_cons_succ, List.getElem_cons_zero, List.setIfInBounds_toArray, List.set_cons_zero, List.set_cons_succ]
              refine wpAnyH_take (i := 21) (oi := _) (v := ?_) rfl (by kernel_rfl) (by kernel_rfl) (by kernel_rfl) (fun _ _ _ h => h) (Or.inl ⟨by rfl, ?_⟩) (by assumption) ?_
              (rotate_left); (focus (intro wv hSw; (obtain ⟨qP, qQ, qR, qB⟩ := hSw); obtain ⟨_, _, _, _, _⟩ := blk2 qP; obtain ⟨_, _, _, _, _, _, _, _, _, _, _⟩ := blk5 qQ; obtain ⟨_, _, _, _, _, _, _⟩ := blk3 qR; go_simp; (try with_reducible rfl)))
              try simp only [Act.put, List.getElem_toArray, List.getElem_cons_succ, List.getElem_cons_zero, List.setIfInBounds_toArray, List.set_cons_zero, List.set_cons_succ]
              refine wpAnyH_take (i := 22) (oi := _) (v := ?_) rfl (by kernel_rfl) (by kernel_rfl) (by kernel_rfl) (fun _ _ _ h => h) (Or.inl ⟨by rfl, ?_⟩) (by assumption) ?_
              (rotate_left); (focus (intro wv hSw; (obtain ⟨qP, qQ, qR, qB⟩ := hSw); obtain ⟨_, _, _, _, _⟩ := blk2 qP; obtain ⟨_, _, _, _, _, _, _, _, _, _, _⟩ := blk5 qQ; obtain ⟨_, _, _, _, _, _, _⟩ := blk3 qR; go_simp; (try with_reducible rfl)))
              try simp only [Act.put, List.getElem_toArray, List.getElem_cons_succ, List.getElem_cons_zero, List.setIfInBounds_toArray, List.set_cons_zero, List.set_cons_succ]
              refine wpAnyH_take (i := 23) (oi := _) (v := ?_) rfl (by kernel_rfl) (by kernel_rfl) (by kernel_rfl) (fun _ _ _ h => h) (Or.inl ⟨by rfl, ?_⟩) (by assumption) ?_
              (rotate_left); (focus (intro wv hSw; (obtain ⟨qP, qQ, qR, qB⟩ := hSw); obtain ⟨_, _, _, _, _⟩ := blk2 qP; obtain ⟨_, _, _, _, _, _, _, _, _, _, _⟩ := blk5 qQ; obtain ⟨_, _, _, _, _, _, _⟩ := blk3 qR; go_simp; (try with_reducible rfl)))
              try simp only [Act.put, List.getElem_toArray, List.getElem_cons_succ, List.getElem_cons_zero, List.setIfInBounds_toArray, List.set_cons_zero, List.set_cons_succ]
              refine wpAnyH_take (i := 24) (oi := _) (v := ?_) rfl (by kernel_rfl) (by kernel_rfl) (by kernel_rfl) (fun _ _ _ h => h) (Or.inl ⟨by rfl, ?_⟩) (by assumption) ?_
              (rotate_left); (focus (intro wv hSw; (obtain ⟨qP, qQ, qR, qB⟩ := hSw); obtain ⟨_, _, _, _, _⟩ := blk2 qP; obtain ⟨_, _, _, _, _, _, _, _, _, _, _⟩ := blk5 qQ; obtain ⟨_, _, _, _, _, _, _⟩ := blk3 qR; go_simp; (try with_reducible rfl)))
              try simp only [Act.put, List.getElem_toArray, List.getElem_cons_succ, List.getElem_cons_zero, List.setIfInBounds_toArray, List.set_cons_zero, List.set_cons_succ]
              refine wpAnyH_take (i := 25) (oi := _) (v := ?_) rfl (by kernel_rfl) (by kernel_rfl) (by kernel_rfl) (fun _ _ _ h => h) (Or.inl ⟨by rfl, ?_⟩) (by assumption) ?_
              (rotate_left); (focus (intro wv hSw; (obtain ⟨qP, qQ, qR, qB⟩ := hSw); obtain ⟨_, _, _, _, _⟩ := blk2 qP; obtain ⟨_, _, _, _, _, _, _, _, _, _, _⟩ := blk5 qQ; obtain ⟨_, _, _, _, _, _, _⟩ := blk3 qR; go_simp; (try with_reducible rfl)))
              try simp only [Act.put, List.getElem_toArray, List.getElem_cons_succ, List.getElem_cons_zero, List.setIfInBounds_toArray, List.set_cons_zero, List.set_cons_succ]
              refine wpAnyH_take (i := 26) (oi := _) (v := ?_) rfl (by kernel_rfl) (by kernel_rfl) (by kernel_rfl) (fun _ _ _ h => h) (Or.inl ⟨by rfl, ?_⟩) (by assumption) ?_
              (rotate_left); (focus (intro wv hSw; (obtain ⟨qP, qQ, qR, qB⟩ := hSw); obtain ⟨_, _, _, _, _⟩ := blk2 qP; obtain ⟨_, _, _, _, _, _, _, _, _, _, _⟩ := blk5 qQ; obtain ⟨_, _, _, _, _, _, _⟩ := blk3 qR; go_simp; (try with_reducible rfl)))
              try simp only [Act.put, List.getElem_toArray, List.getElem_cons_succ, List.getElem_cons_zero, List.setIfInBounds_toArray, List.set_cons_zero, List.set_cons_succ]
              refine wpAnyH_take (i := 27) (oi := _) (v := ?_) rfl (by kernel_rfl) (by kernel_rfl) (by kernel_rfl) (fun _ _ _ h => h) (Or.inl ⟨by rfl, ?_⟩) (by assumption) ?_
              (rotate_left); (focus (intro wv hSw; (obtain ⟨qP, qQ, qR, qB⟩ := hSw); obtain ⟨_, _, _, _, _⟩ := blk2 qP; obtain ⟨_, _, _, _, _, _, _, _, _, _, _⟩ := blk5 qQ; obtain ⟨_, _, _, _, _, _, _⟩ := blk3 qR; go_simp; (try with_reducible rfl)))
              try simp only [Act.put, List.getElem_toArray, List.getElem_cons_succ, List.getElem_cons_zero, List.setIfInBounds_toArray, List.set_cons_zero, List.set_cons_succ]
              refine wpAnyH_done (by kernel_rfl) ?_ _
              go_wp2_with fail
              go_meet
              exact ⟨rfl, rfl, rfl, rfl, hB_0a6a14l9l17q⟩
            · obtain ⟨l0_0a6a14l17, l1_0a6a14l17, _, _, _⟩ := blk2 hN_0a6a14
              go_simp
              refine hK.out _ _ ⟨hP_0a6a14, hQ_0a6a14, hR_0a6a14, hB_0a6a14⟩ (fun hHeld => ?_)
              clear hK K
              try simp only [Act.put, List.getElem_toArray, List.getElem_cons_succ, List.getElem_cons_zero, List.setIfInBounds_toArray, List.set_cons_zero, List.set_cons_succ]
              obtain ⟨hP_0a6a14l17, hQ_0a6a14l17, hR_0a6a14l17, hB_0a6a14l17⟩ := id hHeld
              have hM_0a6a14l17 := hM_0a6a14
              have hN_0a6a14l17 := hN_0a6a14
              refine wpAnyH_ready (rs := [9]) (by kernel_rfl) (by simp) ?_
              refine AllReadyH.cons (o := _) rfl (fun K hK => ?_) (AllReadyH.nil)
              obtain ⟨l0_0a6a14l17l9, l1_0a6a14l17l9, _, _, _⟩ := blk2 hM_0a6a14l17
              go_simp
              refine hK.out _ _ ⟨hP_0a6a14l17, hQ_0a6a14l17, hR_0a6a14l17, hB_0a6a14l17⟩ (fun hHeld => ?_)
              clear hK K
              try simp only [Act.put, List.getElem_toArray, List.getElem_cons_succ, List.getElem_cons_zero, List.setIfInBounds_toArray, List.set_cons_zero, List.set_cons_succ]
              obtain ⟨hP_0a6a14l17l9, hQ_0a6a14l17l9, hR_0a6a14l17l9, hB_0a6a14l17l9⟩ := id hHeld
              have hM_0a6a14l17l9 := hM_0a6a14l17
              have hN_0a6a14l17l9 := hN_0a6a14l17
              refine wpAnyH_ready (rs := [18]) (by kernel_rfl) (by simp) ?_
              refine AllReadyH.cons (o := _) rfl (fun K hK => ?_) AllReadyH.nil
              go_simp
              (go_at_call 144; refine (side5_any pn rn c d _ (by omega) (by omega) (by omega) (by omega) (by omega) (by omega) (by omega) (by omega)).mono ?_; rintro E x' ⟨rfl, rfl⟩)
              refine hK.out _ _ ⟨hP_0a6a14l17l9, hQ_0a6a14l17l9, hR_0a6a14l17l9, hB_0a6a14l17l9⟩ (fun hHeld => ?_)
              clear hK K
              try simp only [Act.put, List.getElem_toArray, List.getElem_cons_succ, List.getElem_cons_zero, List.setIfInBounds_toArray, List.set_cons_zero, List.set_cons_succ]
              obtain ⟨hP_0a6a14l17l9q, hQ_0a6a14l17l9q, hR_0a6a14l17l9q, hB_0a6a14l17l9q⟩ := id hHeld
              refine wpAnyH_take (i := 19) (oi := _) (v := ?_) rfl (by kernel_rfl) (by kernel_rfl) (by kernel_rfl) (fun _ _ _ h => h) (Or.inl ⟨by rfl, ?_⟩) (by assumption) ?_
              (rotate_left); (focus (intro wv hSw; (obtain ⟨qP, qQ, qR, qB⟩ := hSw); obtain ⟨_, _, _, _, _⟩ := blk2 qP; obtain ⟨_, _, _, _, _, _, _, _, _, _, _⟩ := blk5 qQ; obtain ⟨_, _, _, _, _, _, _⟩ := blk3 qR; go_simp; (try with_reducible rfl)))
              try simp only [Act.put, List.getElem_toArray, List.getElem_cons_succ, List.getElem_cons_zero, List.setIfInBounds_toArray, List.set_cons_zero, List.set_cons_succ]
              refine wpAnyH_take (i := 20) (oi := _) (v := ?_) rfl (by kernel_rfl) (by kernel_rfl) (by kernel_rfl) (fun _ _ _ h => h) (Or.inl ⟨by rfl, ?_⟩) (by assumption) ?_
              (rotate_left); (focus (intro wv hSw; (obtain ⟨qP, qQ, qR, qB⟩ := hSw); obtain ⟨_, _, _, _, _⟩ := blk2 qP; obtain ⟨_, _, _, _, _, _, _, _, _, _, _⟩ := blk5 qQ; obtain ⟨_, _, _, _, _, _, _⟩ := blk3 qR; go_simp; (try with_reducible rfl)))
              try simp only [Act.put, List.getElem_toArray, List.getElem_cons_succ, List.getElem_cons_zero, List.setIfInBounds_toArray, List.set_cons_zero, List.set_cons_succ]
              refine wpAnyH_take (i := 21) (oi := _) (v := ?_) rfl (by kernel_rfl) (by kernel_rfl) (by kernel_rfl) (fun _ _ _ h => h) (Or.inl ⟨by rfl, ?_⟩) (by assumption) ?_
              (rotate_left); (focus (intro wv hSw; (obtain ⟨qP, qQ, qR, qB⟩ := hSw); obtain ⟨_, _, _, _, _⟩ := blk2 qP; obtain ⟨_, _, _, _, _, _, _, _, _, _, _⟩ := blk5 qQ; obtain ⟨_, _, _, _, _, _, _⟩ := blk3 qR; go_simp; (try with_reducible rfl)))
              try simp only [Act.put, List.getElem_toArray, List.getElem_cons_succ, List.getElem_cons_zero, List.setIfInBounds_toArray, List.set_cons_zero, List.set_cons_succ]
              refine wpAnyH_take (i := 22) (oi := _) (v := ?_) rfl (by kernel_rfl) (by kernel_rfl) (by kernel_rfl) (fun _ _ _ h => h) (Or.inl ⟨by rfl, ?_⟩) (by assumption) ?_
              (rotate_left); (focus (intro wv hSw; (obtain ⟨qP, qQ, qR, qB⟩ := hSw); obtain ⟨_, _, _, _, _⟩ := blk2 qP; obtain ⟨_, _, _, _, _, _, _, _, _, _, _⟩ := blk5 qQ; obtain ⟨_, _, _, _, _, _, _⟩ := blk3 qR; go_simp; (try with_reducible rfl)))
              try simp only [Act.put, List.getElem_toArray, List.getElem_cons_succ, List.getElem_cons_zero, List.setIfInBounds_toArray, List.set_cons_zero, List.set_cons_succ]
              refine wpAnyH_take (i := 23) (oi := _) (v := ?_) rfl (by kernel_rfl) (by kernel_rfl) (by kernel_rfl) (fun _ _ _ h => h) (Or.inl ⟨by rfl, ?_⟩) (by assumption) ?_
              (rotate_left); (focus (intro wv hSw; (obtain ⟨qP, qQ, qR, qB⟩ := hSw); obtain ⟨_, _, _, _, _⟩ := blk2 qP; obtain ⟨_, _, _, _, _, _, _, _, _, _, _⟩ := blk5 qQ; obtain ⟨_, _, _, _, _, _, _⟩ := blk3 qR; go_simp; (try with_reducible rfl)))
              try simp only [Act.put, List.getElem_toArray, List.getElem_cons_succ, List.getElem_cons_zero, List.setIfInBounds_toArray, List.set_cons_zero, List.set_cons_succ]
              refine wpAnyH_take (i := 24) (oi := _) (v := ?_) rfl (by kernel_rfl) (by kernel_rfl) (by kernel_rfl) (fun _ _ _ h => h) (Or.inl ⟨by rfl, ?_⟩) (by assumption) ?_
              (rotate_left); (focus (intro wv hSw; (obtain ⟨qP, qQ, qR, qB⟩ := hSw); obtain ⟨_, _, _, _, _⟩ := blk2 qP; obtain ⟨_, _, _, _, _, _, _, _, _, _, _⟩ := blk5 qQ; obtain ⟨_, _, _, _, _, _, _⟩ := blk3 qR; go_simp; (try with_reducible rfl)))
              try simp only [Act.put, List.getElem_toArray, List.getElem_cons_succ, List.getElem_cons_zero, List.setIfInBounds_toArray, List.set_cons_zero, List.set_cons_succ]
              refine wpAnyH_take (i := 25) (oi := _) (v := ?_) rfl (by kernel_rfl) (by kernel_rfl) (by kernel_rfl) (fun _ _ _ h => h) (Or.inl ⟨by rfl, ?_⟩) (by assumption) ?_
              (rotate_left); (focus (intro wv hSw; (obtain ⟨qP, qQ, qR, qB⟩ := hSw); obtain ⟨_, _, _, _, _⟩ := blk2 qP; obtain ⟨_, _, _, _, _, _, _, _, _, _, _⟩ := blk5 qQ; obtain ⟨_, _, _, _, _, _, _⟩ := blk3 qR; go_simp; (try with_reducible rfl)))
              try simp only [Act.put, List.getElem_toArray, List.getElem_cons_succ, List.getElem_cons_zero, List.setIfInBounds_toArray, List.set_cons_zero, List.set_cons_succ]
              refine wpAnyH_take (i := 26) (oi := _) (v := ?_) rfl (by kernel_rfl) (by kernel_rfl) (by kernel_rfl) (fun _ _ _ h => h) (Or.inl ⟨by rfl, ?_⟩) (by assumption) ?_
              (rotate_left); (focus (intro wv hSw; (obtain ⟨qP, qQ, qR, qB⟩ := hSw); obtain ⟨_, _, _, _, _⟩ := blk2 qP; obtain ⟨_, _, _, _, _, _, _, _, _, _, _⟩ := blk5 qQ; obtain ⟨_, _, _, _, _, _, _⟩ := blk3 qR; go_simp; (try with_reducible rfl)))
              try simp only [Act.put, List.getElem_toArray, List.getElem_cons_succ, List.getElem_cons_zero, List.setIfInBounds_toArray, List.set_cons_zero, List.set_cons_succ]
              refine wpAnyH_take (i := 27) (oi := _) (v := ?_) rfl (by kernel_rfl) (by kernel_rfl) (by kernel_rfl) (fun _ _ _ h => h) (Or.inl ⟨by rfl, ?_⟩) (by assumption) ?_
              (rotate_left); (focus (intro wv hSw; (obtain ⟨qP, qQ, qR, qB⟩ := hSw); obtain ⟨_, _, _, _, _⟩ := blk2 qP; obtain ⟨_, _, _, _, _, _, _, _, _, _, _⟩ := blk5 qQ; obtain ⟨_, _, _, _, _, _, _⟩ := blk3 qR; go_simp; (try with_reducible rfl)))
              try simp only [Act.put, List.getElem_toArray, List.getElem_cons_succ, List.getElem_cons_zero, List.setIfInBounds_toArray, List.set_cons_zero, List.set_cons_succ]
              refine wpAnyH_done (by kernel_rfl) ?_ _
              go_wp2_with fail
              go_meet
              exact ⟨rfl, rfl, rfl, rfl, hB_0a6a14l17l9q⟩
        · go_simp
          refine hK.out _ _ ⟨blk_old hP_0 _, blk_old hQ_0 _, blk_old hR_0 _, hB_0.alloc (by have := hB_0.size; omega) _⟩ (fun hHeld => ?_)
          clear hK K
          try simp only [Act.put, List.getElem_toArray, List.getElem_cons_succ, List.getElem_cons_zero, List.setIfInBounds_toArray, List.set_cons_zero, List.set_cons_succ]
          obtain ⟨hP_0a14, hQ_0a14, hR_0a14, hB_0a14⟩ := id hHeld
          have hN_0a14 : (((wr.alloc (.cells #[.int .i64 pe, .int .i64 pn] 3)).alloc (.cells #[.int .i64 re, .int .i64 rn] 3)).drew.alloc (.cells #[.int .i64 b, .int .i64 d] 3)).heap[wr.heap.size + 1 + 1]? = some (.cells #[.int .i64 b, .int .i64 d] 3) := by have := blk_new (((wr.alloc (.cells #[.int .i64 pe, .int .i64 pn] 3)).alloc (.cells #[.int .i64 re, .int .i64 rn] 3)).drew) (.cells #[.int .i64 b, .int .i64 d] 3); simpa using this
          refine wpAnyH_take (i := 16) (oi := _) (v := ?_) rfl (by kernel_rfl) (by kernel_rfl) (by kernel_rfl) (fun _ _ _ h => h) (Or.inl ⟨by rfl, ?_⟩) (by assumption) ?_
          (rotate_left); (focus (intro wv hSw; (obtain ⟨qP, qQ, qR, qB⟩ := hSw); obtain ⟨_, _, _, _, _⟩ := blk2 qP; obtain ⟨_, _, _, _, _, _, _, _, _, _, _⟩ := blk5 qQ; obtain ⟨_, _, _, _, _, _, _⟩ := blk3 qR; go_simp; (try with_reducible rfl)))
          try simp only [Act.put, List.getElem_toArray, List.getElem_cons_succ, List.getElem_cons_zero, List.setIfInBounds_toArray, List.set_cons_zero, List.set_cons_succ]
          refine wpAnyH_ready (rs := [6, 17]) (by kernel_rfl) (by simp) ?_
          refine AllReadyH.cons (o := _) rfl (fun K hK => ?_) (AllReadyH.cons (o := _) rfl (fun K hK => ?_) (AllReadyH.nil))
          · go_simp
            refine hK.out _ _ ⟨blk_old hP_0a14 _, blk_old hQ_0a14 _, blk_old hR_0a14 _, hB_0a14.alloc (by have := hB_0a14.size; omega) _⟩ (fun hHeld => ?_)
            clear hK K
            try simp only [Act.put, List.getElem_toArray, List.getElem_cons_succ, List.getElem_cons_zero, List.setIfInBounds_toArray, List.set_cons_zero, List.set_cons_succ]
            obtain ⟨hP_0a14a6, hQ_0a14a6, hR_0a14a6, hB_0a14a6⟩ := id hHeld
            have hN_0a14a6 := blk_old hN_0a14 (.cells #[.int .i64 a, .int .i64 c] 3)
            have hM_0a14a6 : ((((wr.alloc (.cells #[.int .i64 pe, .int .i64 pn] 3)).alloc (.cells #[.int .i64 re, .int .i64 rn] 3)).drew.alloc (.cells #[.int .i64 b, .int .i64 d] 3)).alloc (.cells #[.int .i64 a, .int .i64 c] 3)).heap[wr.heap.size + 1 + 1 + 1]? = some (.cells #[.int .i64 a, .int .i64 c] 3) := by have := blk_new ((((wr.alloc (.cells #[.int .i64 pe, .int .i64 pn] 3)).alloc (.cells #[.int .i64 re, .int .i64 rn] 3)).drew.alloc (.cells #[.int .i64 b, .int .i64 d] 3))) (.cells #[.int .i64 a, .int .i64 c] 3); simpa using this
            refine wpAnyH_take (i := 8) (oi := _) (v := ?_) rfl (by kernel_rfl) (by kernel_rfl) (by kernel_rfl) (fun _ _ _ h => h) (Or.inl ⟨by rfl, ?_⟩) (by assumption) ?_
            (rotate_left); (focus (intro wv hSw; (obtain ⟨qP, qQ, qR, qB⟩ := hSw); obtain ⟨_, _, _, _, _⟩ := blk2 qP; obtain ⟨_, _, _, _, _, _, _, _, _, _, _⟩ := blk5 qQ; obtain ⟨_, _, _, _, _, _, _⟩ := blk3 qR; go_simp; (try with_reducible rfl)))
            try simp only [Act.put, List.getElem_toArray, List.getElem_cons_succ, List.getElem_cons_zero, List.setIfInBounds_toArray, List.set_cons_zero, List.set_cons_succ]
            refine wpAnyH_ready (rs := [9, 17]) (by kernel_rfl) (by simp) ?_
            refine AllReadyH.cons (o := _) rfl (fun K hK => ?_) (AllReadyH.cons (o := _) rfl (fun K hK => ?_) (AllReadyH.nil))
            · obtain ⟨l0_0a14a6l9, l1_0a14a6l9, _, _, _⟩ := blk2 hM_0a14a6
              go_simp
              refine hK.out _ _ ⟨hP_0a14a6, hQ_0a14a6, hR_0a14a6, hB_0a14a6⟩ (fun hHeld => ?_)
              clear hK K
              try simp only [Act.put, List.getElem_toArray, List.getElem_cons_succ, List.getElem_cons_zero, List.setIfInBounds_toArray, List.set_cons_zero, List.set_cons_succ]
              obtain ⟨hP_0a14a6l9, hQ_0a14a6l9, hR_0a14a6l9, hB_0a14a6l9⟩ := id hHeld
              have hN_0a14a6l9 := hN_0a14a6
              have hM_0a14a6l9 := hM_0a14a6
              refine wpAnyH_ready (rs := [17]) (by kernel_rfl) (by simp) ?_
              refine AllReadyH.cons (o := _) rfl (fun K hK => ?_) (AllReadyH.nil)
              obtain ⟨l0_0a14a6l9l17, l1_0a14a6l9l17, _, _, _⟩ := blk2 hN_0a14a6l9
              go_simp
              refine hK.out _ _ ⟨hP_0a14a6l9, hQ_0a14a6l9, hR_0a14a6l9, hB_0a14a6l9⟩ (fun hHeld => ?_)
              clear hK K
              try simp only [Act.put, List.getElem_toArray, List.getElem_cons_succ, List.getElem_cons_zero, List.setIfInBounds_toArray, List.set_cons_zero, List.set_cons_succ]
              obtain ⟨hP_0a14a6l9l17, hQ_0a14a6l9l17, hR_0a14a6l9l17, hB_0a14a6l9l17⟩ := id hHeld
              have hN_0a14a6l9l17 := hN_0a14a6l9
              have hM_0a14a6l9l17 := hM_0a14a6l9
              refine wpAnyH_ready (rs := [18]) (by kernel_rfl) (by simp) ?_
              refine AllReadyH.cons (o := _) rfl (fun K hK => ?_) AllReadyH.nil
              go_simp
              (go_at_call 144; refine (side5_any pn rn c d _ (by omega) (by omega) (by omega) (by omega) (by omega) (by omega) (by omega) (by omega)).mono ?_; rintro E x' ⟨rfl, rfl⟩)
              refine hK.out _ _ ⟨hP_0a14a6l9l17, hQ_0a14a6l9l17, hR_0a14a6l9l17, hB_0a14a6l9l17⟩ (fun hHeld => ?_)
              clear hK K
              try simp only [Act.put, List.getElem_toArray, List.getElem_cons_succ, List.getElem_cons_zero, List.setIfInBounds_toArray, List.set_cons_zero, List.set_cons_succ]
              obtain ⟨hP_0a14a6l9l17q, hQ_0a14a6l9l17q, hR_0a14a6l9l17q, hB_0a14a6l9l17q⟩ := id hHeld
              refine wpAnyH_take (i := 19) (oi := _) (v := ?_) rfl (by kernel_rfl) (by kernel_rfl) (by kernel_rfl) (fun _ _ _ h => h) (Or.inl ⟨by rfl, ?_⟩) (by assumption) ?_
              (rotate_left); (focus (intro wv hSw; (obtain ⟨qP, qQ, qR, qB⟩ := hSw); obtain ⟨_, _, _, _, _⟩ := blk2 qP; obtain ⟨_, _, _, _, _, _, _, _, _, _, _⟩ := blk5 qQ; obtain ⟨_, _, _, _, _, _, _⟩ := blk3 qR; go_simp; (try with_reducible rfl)))
              try simp only [Act.put, List.getElem_toArray, List.getElem_cons_succ, List.getElem_cons_zero, List.setIfInBounds_toArray, List.set_cons_zero, List.set_cons_succ]
              refine wpAnyH_take (i := 20) (oi := _) (v := ?_) rfl (by kernel_rfl) (by kernel_rfl) (by kernel_rfl) (fun _ _ _ h => h) (Or.inl ⟨by rfl, ?_⟩) (by assumption) ?_
              (rotate_left); (focus (intro wv hSw; (obtain ⟨qP, qQ, qR, qB⟩ := hSw); obtain ⟨_, _, _, _, _⟩ := blk2 qP; obtain ⟨_, _, _, _, _, _, _, _, _, _, _⟩ := blk5 qQ; obtain ⟨_, _, _, _, _, _, _⟩ := blk3 qR; go_simp; (try with_reducible rfl)))
              try simp only [Act.put, List.getElem_toArray, List.getElem_cons_succ, List.getElem_cons_zero, List.setIfInBounds_toArray, List.set_cons_zero, List.set_cons_succ]
              refine wpAnyH_take (i := 21) (oi := _) (v := ?_) rfl (by kernel_rfl) (by kernel_rfl) (by kernel_rfl) (fun _ _ _ h => h) (Or.inl ⟨by rfl, ?_⟩) (by assumption) ?_
              (rotate_left); (focus (intro wv hSw; (obtain ⟨qP, qQ, qR, qB⟩ := hSw); obtain ⟨_, _, _, _, _⟩ := blk2 qP; obtain ⟨_, _, _, _, _, _, _, _, _, _, _⟩ := blk5 qQ; obtain ⟨_, _, _, _, _, _, _⟩ := blk3 qR; go_simp; (try with_reducible rfl)))
              try simp only [Act.put, List.getElem_toArray, List.getElem_cons_succ, List.getElem_cons_zero, List.setIfInBounds_toArray, List.set_cons_zero, List.set_cons_succ]
              refine wpAnyH_take (i := 22) (oi := _) (v := ?_) rfl (by kernel_rfl) (by kernel_rfl) (by kernel_rfl) (fun _ _ _ h => h) (Or.inl ⟨by rfl, ?_⟩) (by assumption) ?_
              (rotate_left); (focus (intro wv hSw; (obtain ⟨qP, qQ, qR, qB⟩ := hSw); obtain ⟨_, _, _, _, _⟩ := blk2 qP; obtain ⟨_, _, _, _, _, _, _, _, _, _, _⟩ := blk5 qQ; obtain ⟨_, _, _, _, _, _, _⟩ := blk3 qR; go_simp; (try with_reducible rfl)))
              try simp only [Act.put, List.getElem_toArray, List.getElem_cons_succ, List.getElem_cons_zero, List.setIfInBounds_toArray, List.set_cons_zero, List.set_cons_succ]
              refine wpAnyH_take (i := 23) (oi := _) (v := ?_) rfl (by kernel_rfl) (by kernel_rfl) (by kernel_rfl) (fun _ _ _ h => h) (Or.inl ⟨by rfl, ?_⟩) (by assumption) ?_
              (rotate_left); (focus (intro wv hSw; (obtain ⟨qP, qQ, qR, qB⟩ := hSw); obtain ⟨_, _, _, _, _⟩ := blk2 qP; obtain ⟨_, _, _, _, _, _, _, _, _, _, _⟩ := blk5 qQ; obtain ⟨_, _, _, _, _, _, _⟩ := blk3 qR; go_simp; (try with_reducible rfl)))
              try simp only [Act.put, List.getElem_toArray, List.getElem_cons_succ, List.getElem_cons_zero, List.setIfInBounds_toArray, List.set_cons_zero, List.set_cons_succ]
              refine wpAnyH_take (i := 24) (oi := _) (v := ?_) rfl (by kernel_rfl) (by kernel_rfl) (by kernel_rfl) (fun _ _ _ h => h) (Or.inl ⟨by rfl, ?_⟩) (by assumption) ?_
              (rotate_left); (focus (intro wv hSw; (obtain ⟨qP, qQ, qR, qB⟩ := hSw); obtain ⟨_, _, _, _, _⟩ := blk2 qP; obtain ⟨_, _, _, _, _, _, _, _, _, _, _⟩ := blk5 qQ; obtain ⟨_, _, _, _, _, _, _⟩ := blk3 qR; go_simp; (try with_reducible rfl)))
              try simp only [Act.put, List.getElem_toArray, List.getElem_cons_succ, List.getElem_cons_zero, List.setIfInBounds_toArray, List.set_cons_zero, List.set_cons_succ]
              refine wpAnyH_take (i := 25) (oi := _) (v := ?_) rfl (by kernel_rfl) (by kernel_rfl) (by kernel_rfl) (fun _ _ _ h => h) (Or.inl ⟨by rfl, ?_⟩) (by assumption) ?_
              (rotate_left); (focus (intro wv hSw; (obtain ⟨qP, qQ, qR, qB⟩ := hSw); obtain ⟨_, _, _, _, _⟩ := blk2 qP; obtain ⟨_, _, _, _, _, _, _, _, _, _, _⟩ := blk5 qQ; obtain ⟨_, _, _, _, _, _, _⟩ := blk3 qR; go_simp; (try with_reducible rfl)))
              try simp only [Act.put, List.getElem_toArray, List.getElem_cons_succ, List.getElem_cons_zero, List.setIfInBounds_toArray, List.set_cons_zero, List.set_cons_succ]
              refine wpAnyH_take (i := 26) (oi := _) (v := ?_) rfl (by kernel_rfl) (by kernel_rfl) (by kernel_rfl) (fun _ _ _ h => h) (Or.inl ⟨by rfl, ?_⟩) (by assumption) ?_
              (rotate_left); (focus (intro wv hSw; (obtain ⟨qP, qQ, qR, qB⟩ := hSw); obtain ⟨_, _, _, _, _⟩ := blk2 qP; obtain ⟨_, _, _, _, _, _, _, _, _, _, _⟩ := blk5 qQ; obtain ⟨_, _, _, _, _, _, _⟩ := blk3 qR; go_simp; (try with_reducible rfl)))
              try simp only [Act.put, List.getElem_toArray, List.getElem_cons_succ, List.getElem_cons_zero, List.setIfInBounds_toArray, List.set_cons_zero, List.set_cons_succ]
              refine wpAnyH_take (i := 27) (oi := _) (v := ?_) rfl (by kernel_rfl) (by kernel_rfl) (by kernel_rfl) (fun _ _ _ h => h) (Or.inl ⟨by rfl, ?_⟩) (by assumption) ?_
              (rotate_left); (focus (intro wv hSw; (obtain ⟨qP, qQ, qR, qB⟩ := hSw); obtain ⟨_, _, _, _, _⟩ := blk2 qP; obtain ⟨_, _, _, _, _, _, _, _, _, _, _⟩ := blk5 qQ; obtain ⟨_, _, _, _, _, _, _⟩ := blk3 qR; go_simp; (try with_reducible rfl)))
              try simp only [Act.put, List.getElem_toArray, List.getElem_cons_succ, List.getElem_cons_zero, List.setIfInBounds_toArray, List.set_cons_zero, List.set_cons_succ]
              refine wpAnyH_done (by kernel_rfl) ?_ _
              go_wp2_with fail
              go_meet
              exact ⟨rfl, rfl, rfl, rfl, hB_0a14a6l9l17q⟩
            · obtain ⟨l0_0a14a6l17, l1_0a14a6l17, _, _, _⟩ := blk2 hN_0a14a6
              go_simp
              refine hK.out _ _ ⟨hP_0a14a6, hQ_0a14a6, hR_0a14a6, hB_0a14a6⟩ (fun hHeld => ?_)
              clear hK K
              try simp only [Act.put, List.getElem_toArray, List.getElem_cons_succ, List.getElem_cons_zero, List.setIfInBounds_toArray, List.set_cons_zero, List.set_cons_succ]
              obtain ⟨hP_0a14a6l17, hQ_0a14a6l17, hR_0a14a6l17, hB_0a14a6l17⟩ := id hHeld
              have hN_0a14a6l17 := hN_0a14a6
              have hM_0a14a6l17 := hM_0a14a6
              refine wpAnyH_ready (rs := [9]) (by kernel_rfl) (by simp) ?_
              refine AllReadyH.cons (o := _) rfl (fun K hK => ?_) (AllReadyH.nil)
              obtain ⟨l0_0a14a6l17l9, l1_0a14a6l17l9, _, _, _⟩ := blk2 hM_0a14a6l17
              go_simp
              refine hK.out _ _ ⟨hP_0a14a6l17, hQ_0a14a6l17, hR_0a14a6l17, hB_0a14a6l17⟩ (fun hHeld => ?_)
              clear hK K
              try simp only [Act.put, List.getElem_toArray, List.getElem_cons_succ, List.getElem_cons_zero, List.setIfInBounds_toArray, List.set_cons_zero, List.set_cons_succ]
              obtain ⟨hP_0a14a6l17l9, hQ_0a14a6l17l9, hR_0a14a6l17l9, hB_0a14a6l17l9⟩ := id hHeld
              have hN_0a14a6l17l9 := hN_0a14a6l17
              have hM_0a14a6l17l9 := hM_0a14a6l17
              refine wpAnyH_ready (rs := [18]) (by kernel_rfl) (by simp) ?_
              refine AllReadyH.cons (o := _) rfl (fun K hK => ?_) AllReadyH.nil
              go_simp
              (go_at_call 144; refine (side5_any pn rn c d _ (by omega) (by omega) (by omega) (by omega) (by omega) (by omega) (by omega) (by omega)).mono ?_; rintro E x' ⟨rfl, rfl⟩)
              refine hK.out _ _ ⟨hP_0a14a6l17l9, hQ_0a14a6l17l9, hR_0a14a6l17l9, hB_0a14a6l17l9⟩ (fun hHeld => ?_)
              clear hK K
              try simp only [Act.put, List.getElem_toArray, List.getElem_cons_succ, List.getElem_cons_zero, List.setIfInBounds_toArray, List.set_cons_zero, List.set_cons_succ]
              obtain ⟨hP_0a14a6l17l9q, hQ_0a14a6l17l9q, hR_0a14a6l17l9q, hB_0a14a6l17l9q⟩ := id hHeld
              refine wpAnyH_take (i := 19) (oi := _) (v := ?_) rfl (by kernel_rfl) (by kernel_rfl) (by kernel_rfl) (fun _ _ _ h => h) (Or.inl ⟨by rfl, ?_⟩) (by assumption) ?_
              (rotate_left); (focus (intro wv hSw; (obtain ⟨qP, qQ, qR, qB⟩ := hSw); obtain ⟨_, _, _, _, _⟩ := blk2 qP; obtain ⟨_, _, _, _, _, _, _, _, _, _, _⟩ := blk5 qQ; obtain ⟨_, _, _, _, _, _, _⟩ := blk3 qR; go_simp; (try with_reducible rfl)))
              try simp only [Act.put, List.getElem_toArray, List.getElem_cons_succ, List.getElem_cons_zero, List.setIfInBounds_toArray, List.set_cons_zero, List.set_cons_succ]
              refine wpAnyH_take (i := 20) (oi := _) (v := ?_) rfl (by kernel_rfl) (by kernel_rfl) (by kernel_rfl) (fun _ _ _ h => h) (Or.inl ⟨by rfl, ?_⟩) (by assumption) ?_
              (rotate_left); (focus (intro wv hSw; (obtain ⟨qP, qQ, qR, qB⟩ := hSw); obtain ⟨_, _, _, _, _⟩ := blk2 qP; obtain ⟨_, _, _, _, _, _, _, _, _, _, _⟩ := blk5 qQ; obtain ⟨_, _, _, _, _, _, _⟩ := blk3 qR; go_simp; (try with_reducible rfl)))
              try simp only [Act.put, List.getElem_toArray, List.getElem_cons_succ, List.getElem_cons_zero, List.setIfInBounds_toArray, List.set_cons_zero, List.set_cons_succ]
              refine wpAnyH_take (i := 21) (oi := _) (v := ?_) rfl (by kernel_rfl) (by kernel_rfl) (by kernel_rfl) (fun _ _ _ h => h) (Or.inl ⟨by rfl, ?_⟩) (by assumption) ?_
              (rotate_left); (focus (intro wv hSw; (obtain ⟨qP, qQ, qR, qB⟩ := hSw); obtain ⟨_, _, _, _, _⟩ := blk2 qP; obtain ⟨_, _, _, _, _, _, _, _, _, _, _⟩ := blk5 qQ; obtain ⟨_, _, _, _, _, _, _⟩ := blk3 qR; go_simp; (try with_reducible rfl)))
              try simp only [Act.put, List.getElem_toArray, List.getElem_cons_succ, List.getElem_cons_zero, List.setIfInBounds_toArray, List.set_cons_zero, List.set_cons_succ]
              refine wpAnyH_take (i := 22) (oi := _) (v := ?_) rfl (by kernel_rfl) (by kernel_rfl) (by kernel_rfl) (fun _ _ _ h => h) (Or.inl ⟨by rfl, ?_⟩) (by assumption) ?_
              (rotate_left); (focus (intro wv hSw; (obtain ⟨qP, qQ, qR, qB⟩ := hSw); obtain ⟨_, _, _, _, _⟩ := blk2 qP; obtain ⟨_, _, _, _, _, _, _, _, _, _, _⟩ := blk5 qQ; obtain ⟨_, _, _, _, _, _, _⟩ := blk3 qR; go_simp; (try with_reducible rfl)))
              try simp only [Act.put, List.getElem_toArray, List.getElem_cons_succ, List.getElem_cons_zero, List.setIfInBounds_toArray, List.set_cons_zero, List.set_cons_succ]
              refine wpAnyH_take (i := 23) (oi := _) (v := ?_) rfl (by kernel_rfl) (by kernel_rfl) (by kernel_rfl) (fun _ _ _ h => h) (Or.inl ⟨by rfl, ?_⟩) (by assumption) ?_
              (rotate_left); (focus (intro wv hSw; (obtain ⟨qP, qQ, qR, qB⟩ := hSw); obtain ⟨_, _, _, _, _⟩ := blk2 qP; obtain ⟨_, _, _, _, _, _, _, _, _, _, _⟩ := blk5 qQ; obtain ⟨_, _, _, _, _, _, _⟩ := blk3 qR; go_simp; (try with_reducible rfl)))
              try simp only [Act.put, List.getElem_toArray, List.getElem_cons_succ, List.getElem_cons_zero, List.setIfInBounds_toArray, List.set_cons_zero, List.set_cons_succ]
              refine wpAnyH_take (i := 24) (oi := _) (v := ?_) rfl (by kernel_rfl) (by kernel_rfl) (by kernel_rfl) (fun _ _ _ h => h) (Or.inl ⟨by rfl, ?_⟩) (by assumption) ?_
              (rotate_left); (focus (intro wv hSw; (obtain ⟨qP, qQ, qR, qB⟩ := hSw); obtain ⟨_, _, _, _, _⟩ := blk2 qP; obtain ⟨_, _, _, _, _, _, _, _, _, _, _⟩ := blk5 qQ; obtain ⟨_, _, _, _, _, _, _⟩ := blk3 qR; go_simp; (try with_reducible rfl)))
              try simp only [Act.put, List.getElem_toArray, List.getElem_cons_succ, List.getElem_cons_zero, List.setIfInBounds_toArray, List.set_cons_zero, List.set_cons_succ]
              refine wpAnyH_take (i := 25) (oi := _) (v := ?_) rfl (by kernel_rfl) (by kernel_rfl) (by kernel_rfl) (fun _ _ _ h => h) (Or.inl ⟨by rfl, ?_⟩) (by assumption) ?_
              (rotate_left); (focus (intro wv hSw; (obtain ⟨qP, qQ, qR, qB⟩ := hSw); obtain ⟨_, _, _, _, _⟩ := blk2 qP; obtain ⟨_, _, _, _, _, _, _, _, _, _, _⟩ := blk5 qQ; obtain ⟨_, _, _, _, _, _, _⟩ := blk3 qR; go_simp; (try with_reducible rfl)))
              try simp only [Act.put, List.getElem_toArray, List.getElem_cons_succ, List.getElem_cons_zero, List.setIfInBounds_toArray, List.set_cons_zero, List.set_cons_succ]
              refine wpAnyH_take (i := 26) (oi := _) (v := ?_) rfl (by kernel_rfl) (by kernel_rfl) (by kernel_rfl) (fun _ _ _ h => h) (Or.inl ⟨by rfl, ?_⟩) (by assumption) ?_
              (rotate_left); (focus (intro wv hSw; (obtain ⟨qP, qQ, qR, qB⟩ := hSw); obtain ⟨_, _, _, _, _⟩ := blk2 qP; obtain ⟨_, _, _, _, _, _, _, _, _, _, _⟩ := blk5 qQ; obtain ⟨_, _, _, _, _, _, _⟩ := blk3 qR; go_simp; (try with_reducible rfl)))
              try simp only [Act.put, List.getElem_toArray, List.getElem_cons_succ, List.getElem_cons_zero, List.setIfInBounds_toArray, List.set_cons_zero, List.set_cons_succ]
              refine wpAnyH_take (i := 27) (oi := _) (v := ?_) rfl (by kernel_rfl) (by kernel_rfl) (by kernel_rfl) (fun _ _ _ h => h) (Or.inl ⟨by rfl, ?_⟩) (by assumption) ?_
              (rotate_left); (focus (intro wv hSw; (obtain ⟨qP, qQ, qR, qB⟩ := hSw); obtain ⟨_, _, _, _, _⟩ := blk2 qP; obtain ⟨_, _, _, _, _, _, _, _, _, _, _⟩ := blk5 qQ; obtain ⟨_, _, _, _, _, _, _⟩ := blk3 qR; go_simp; (try with_reducible rfl)))
              try simp only [Act.put, List.getElem_toArray, List.getElem_cons_succ, List.getElem_cons_zero, List.setIfInBounds_toArray, List.set_cons_zero, List.set_cons_succ]
              refine wpAnyH_done (by kernel_rfl) ?_ _
              go_wp2_with fail
              go_meet
              exact ⟨rfl, rfl, rfl, rfl, hB_0a14a6l17l9q⟩
          · obtain ⟨l0_0a14l17, l1_0a14l17, _, _, _⟩ := blk2 hN_0a14
            go_simp
            refine hK.out _ _ ⟨hP_0a14, hQ_0a14, hR_0a14, hB_0a14⟩ (fun hHeld => ?_)
            clear hK K
            try simp only [Act.put, List.getElem_toArray, List.getElem_cons_succ, List.getElem_cons_zero, List.setIfInBounds_toArray, List.set_cons_zero, List.set_cons_succ]
            obtain ⟨hP_0a14l17, hQ_0a14l17, hR_0a14l17, hB_0a14l17⟩ := id hHeld
            have hN_0a14l17 := hN_0a14
            refine wpAnyH_ready (rs := [6]) (by kernel_rfl) (by simp) ?_
            refine AllReadyH.cons (o := _) rfl (fun K hK => ?_) (AllReadyH.nil)
            go_simp
            refine hK.out _ _ ⟨blk_old hP_0a14l17 _, blk_old hQ_0a14l17 _, blk_old hR_0a14l17 _, hB_0a14l17.alloc (by have := hB_0a14l17.size; omega) _⟩ (fun hHeld => ?_)
            clear hK K
            try simp only [Act.put, List.getElem_toArray, List.getElem_cons_succ, List.getElem_cons_zero, List.setIfInBounds_toArray, List.set_cons_zero, List.set_cons_succ]
            obtain ⟨hP_0a14l17a6, hQ_0a14l17a6, hR_0a14l17a6, hB_0a14l17a6⟩ := id hHeld
            have hN_0a14l17a6 := blk_old hN_0a14l17 (.cells #[.int .i64 a, .int .i64 c] 3)
            have hM_0a14l17a6 : ((((wr.alloc (.cells #[.int .i64 pe, .int .i64 pn] 3)).alloc (.cells #[.int .i64 re, .int .i64 rn] 3)).drew.alloc (.cells #[.int .i64 b, .int .i64 d] 3)).alloc (.cells #[.int .i64 a, .int .i64 c] 3)).heap[wr.heap.size + 1 + 1 + 1]? = some (.cells #[.int .i64 a, .int .i64 c] 3) := by have := blk_new ((((wr.alloc (.cells #[.int .i64 pe, .int .i64 pn] 3)).alloc (.cells #[.int .i64 re, .int .i64 rn] 3)).drew.alloc (.cells #[.int .i64 b, .int .i64 d] 3))) (.cells #[.int .i64 a, .int .i64 c] 3); simpa using this
            refine wpAnyH_take (i := 8) (oi := _) (v := ?_) rfl (by kernel_rfl) (by kernel_rfl) (by kernel_rfl) (fun _ _ _ h => h) (Or.inl ⟨by rfl, ?_⟩) (by assumption) ?_
            (rotate_left); (focus (intro wv hSw; (obtain ⟨qP, qQ, qR, qB⟩ := hSw); obtain ⟨_, _, _, _, _⟩ := blk2 qP; obtain ⟨_, _, _, _, _, _, _, _, _, _, _⟩ := blk5 qQ; obtain ⟨_, _, _, _, _, _, _⟩ := blk3 qR; go_simp; (try with_reducible rfl)))
            try simp only [Act.put, List.getElem_toArray, List.getElem_cons_succ, List.getElem_cons_zero, List.setIfInBounds_toArray, List.set_cons_zero, List.set_cons_succ]
            refine wpAnyH_ready (rs := [9]) (by kernel_rfl) (by simp) ?_
            refine AllReadyH.cons (o := _) rfl (fun K hK => ?_) (AllReadyH.nil)
            obtain ⟨l0_0a14l17a6l9, l1_0a14l17a6l9, _, _, _⟩ := blk2 hM_0a14l17a6
            go_simp
            refine hK.out _ _ ⟨hP_0a14l17a6, hQ_0a14l17a6, hR_0a14l17a6, hB_0a14l17a6⟩ (fun hHeld => ?_)
            clear hK K
            try simp only [Act.put, List.getElem_toArray, List.getElem_cons_succ, List.getElem_cons_zero, List.setIfInBounds_toArray, List.set_cons_zero, List.set_cons_succ]
            obtain ⟨hP_0a14l17a6l9, hQ_0a14l17a6l9, hR_0a14l17a6l9, hB_0a14l17a6l9⟩ := id hHeld
            have hN_0a14l17a6l9 := hN_0a14l17a6
            have hM_0a14l17a6l9 := hM_0a14l17a6
            refine wpAnyH_ready (rs := [18]) (by kernel_rfl) (by simp) ?_
            refine AllReadyH.cons (o := _) rfl (fun K hK => ?_) AllReadyH.nil
            go_simp
            (go_at_call 144; refine (side5_any pn rn c d _ (by omega) (by omega) (by omega) (by omega) (by omega) (by omega) (by omega) (by omega)).mono ?_; rintro E x' ⟨rfl, rfl⟩)
            refine hK.out _ _ ⟨hP_0a14l17a6l9, hQ_0a14l17a6l9, hR_0a14l17a6l9, hB_0a14l17a6l9⟩ (fun hHeld => ?_)
            clear hK K
            try simp only [Act.put, List.getElem_toArray, List.getElem_cons_succ, List.getElem_cons_zero, List.setIfInBounds_toArray, List.set_cons_zero, List.set_cons_succ]
            obtain ⟨hP_0a14l17a6l9q, hQ_0a14l17a6l9q, hR_0a14l17a6l9q, hB_0a14l17a6l9q⟩ := id hHeld
            refine wpAnyH_take (i := 19) (oi := _) (v := ?_) rfl (by kernel_rfl) (by kernel_rfl) (by kernel_rfl) (fun _ _ _ h => h) (Or.inl ⟨by rfl, ?_⟩) (by assumption) ?_
            (rotate_left); (focus (intro wv hSw; (obtain ⟨qP, qQ, qR, qB⟩ := hSw); obtain ⟨_, _, _, _, _⟩ := blk2 qP; obtain ⟨_, _, _, _, _, _, _, _, _, _, _⟩ := blk5 qQ; obtain ⟨_, _, _, _, _, _, _⟩ := blk3 qR; go_simp; (try with_reducible rfl)))
            try simp only [Act.put, List.getElem_toArray, List.getElem_cons_succ, List.getElem_cons_zero, List.setIfInBounds_toArray, List.set_cons_zero, List.set_cons_succ]
            refine wpAnyH_take (i := 20) (oi := _) (v := ?_) rfl (by kernel_rfl) (by kernel_rfl) (by kernel_rfl) (fun _ _ _ h => h) (Or.inl ⟨by rfl, ?_⟩) (by assumption) ?_
            (rotate_left); (focus (intro wv hSw; (obtain ⟨qP, qQ, qR, qB⟩ := hSw); obtain ⟨_, _, _, _, _⟩ := blk2 qP; obtain ⟨_, _, _, _, _, _, _, _, _, _, _⟩ := blk5 qQ; obtain ⟨_, _, _, _, _, _, _⟩ := blk3 qR; go_simp; (try with_reducible rfl)))
            try simp only [Act.put, List.getElem_toArray, List.getElem_cons_succ, List.getElem_cons_zero, List.setIfInBounds_toArray, List.set_cons_zero, List.set_cons_succ]
            refine wpAnyH_take (i := 21) (oi := _) (v := ?_) rfl (by kernel_rfl) (by kernel_rfl) (by kernel_rfl) (fun _ _ _ h => h) (Or.inl ⟨by rfl, ?_⟩) (by assumption) ?_
            (rotate_left); (focus (intro wv hSw; (obtain ⟨qP, qQ, qR, qB⟩ := hSw); obtain ⟨_, _, _, _, _⟩ := blk2 qP; obtain ⟨_, _, _, _, _, _, _, _, _, _, _⟩ := blk5 qQ; obtain ⟨_, _, _, _, _, _, _⟩ := blk3 qR; go_simp; (try with_reducible rfl)))
            try simp only [Act.put, List.getElem_toArray, List.getElem_cons_succ, List.getElem_cons_zero, List.setIfInBounds_toArray, List.set_cons_zero, List.set_cons_succ]
            refine wpAnyH_take (i := 22) (oi := _) (v := ?_) rfl (by kernel_rfl) (by kernel_rfl) (by kernel_rfl) (fun _ _ _ h => h) (Or.inl ⟨by rfl, ?_⟩) (by assumption) ?_
            (rotate_left); (focus (intro wv hSw; (obtain ⟨qP, qQ, qR, qB⟩ := hSw); obtain ⟨_, _, _, _, _⟩ := blk2 qP; obtain ⟨_, _, _, _, _, _, _, _, _, _, _⟩ := blk5 qQ; obtain ⟨_, _, _, _, _, _, _⟩ := blk3 qR; go_simp; (try with_reducible rfl)))
            try simp only [Act.put, List.getElem_toArray, List.getElem_cons_succ, List.getElem_cons_zero, List.setIfInBounds_toArray, List.set_cons_zero, List.set_cons_succ]
            refine wpAnyH_take (i := 23) (oi := _) (v := ?_) rfl (by kernel_rfl) (by kernel_rfl) (by kernel_rfl) (fun _ _ _ h => h) (Or.inl ⟨by rfl, ?_⟩) (by assumption) ?_
            (rotate_left); (focus (intro wv hSw; (obtain ⟨qP, qQ, qR, qB⟩ := hSw); obtain ⟨_, _, _, _, _⟩ := blk2 qP; obtain ⟨_, _, _, _, _, _, _, _, _, _, _⟩ := blk5 qQ; obtain ⟨_, _, _, _, _, _, _⟩ := blk3 qR; go_simp; (try with_reducible rfl)))
            try simp only [Act.put, List.getElem_toArray, List.getElem_cons_succ, List.getElem_cons_zero, List.setIfInBounds_toArray, List.set_cons_zero, List.set_cons_succ]
            refine wpAnyH_take (i := 24) (oi := _) (v := ?_) rfl (by kernel_rfl) (by kernel_rfl) (by kernel_rfl) (fun _ _ _ h => h) (Or.inl ⟨by rfl, ?_⟩) (by assumption) ?_
            (rotate_left); (focus (intro wv hSw; (obtain ⟨qP, qQ, qR, qB⟩ := hSw); obtain ⟨_, _, _, _, _⟩ := blk2 qP; obtain ⟨_, _, _, _, _, _, _, _, _, _, _⟩ := blk5 qQ; obtain ⟨_, _, _, _, _, _, _⟩ := blk3 qR; go_simp; (try with_reducible rfl)))
            try simp only [Act.put, List.getElem_toArray, List.getElem_cons_succ, List.getElem_cons_zero, List.setIfInBounds_toArray, List.set_cons_zero, List.set_cons_succ]
            refine wpAnyH_take (i := 25) (oi := _) (v := ?_) rfl (by kernel_rfl) (by kernel_rfl) (by kernel_rfl) (fun _ _ _ h => h) (Or.inl ⟨by rfl, ?_⟩) (by assumption) ?_
            (rotate_left); (focus (intro wv hSw; (obtain ⟨qP, qQ, qR, qB⟩ := hSw); obtain ⟨_, _, _, _, _⟩ := blk2 qP; obtain ⟨_, _, _, _, _, _, _, _, _, _, _⟩ := blk5 qQ; obtain ⟨_, _, _, _, _, _, _⟩ := blk3 qR; go_simp; (try with_reducible rfl)))
            try simp only [Act.put, List.getElem_toArray, List.getElem_cons_succ, List.getElem_cons_zero, List.setIfInBounds_toArray, List.set_cons_zero, List.set_cons_succ]
            refine wpAnyH_take (i := 26) (oi := _) (v := ?_) rfl (by kernel_rfl) (by kernel_rfl) (by kernel_rfl) (fun _ _ _ h => h) (Or.inl ⟨by rfl, ?_⟩) (by assumption) ?_
            (rotate_left); (focus (intro wv hSw; (obtain ⟨qP, qQ, qR, qB⟩ := hSw); obtain ⟨_, _, _, _, _⟩ := blk2 qP; obtain ⟨_, _, _, _, _, _, _, _, _, _, _⟩ := blk5 qQ; obtain ⟨_, _, _, _, _, _, _⟩ := blk3 qR; go_simp; (try with_reducible rfl)))
            try simp only [Act.put, List.getElem_toArray, List.getElem_cons_succ, List.getElem_cons_zero, List.setIfInBounds_toArray, List.set_cons_zero, List.set_cons_succ]
            refine wpAnyH_take (i := 27) (oi := _) (v := ?_) rfl (by kernel_rfl) (by kernel_rfl) (by kernel_rfl) (fun _ _ _ h => h) (Or.inl ⟨by rfl, ?_⟩) (by assumption) ?_
            (rotate_left); (focus (intro wv hSw; (obtain ⟨qP, qQ, qR, qB⟩ := hSw); obtain ⟨_, _, _, _, _⟩ := blk2 qP; obtain ⟨_, _, _, _, _, _, _, _, _, _, _⟩ := blk5 qQ; obtain ⟨_, _, _, _, _, _, _⟩ := blk3 qR; go_simp; (try with_reducible rfl)))
            try simp only [Act.put, List.getElem_toArray, List.getElem_cons_succ, List.getElem_cons_zero, List.setIfInBounds_toArray, List.set_cons_zero, List.set_cons_succ]
            refine wpAnyH_done (by kernel_rfl) ?_ _
            go_wp2_with fail
            go_meet
            exact ⟨rfl, rfl, rfl, rfl, hB_0a14l17a6l9q⟩
      case rest =>
        obtain ⟨rfl, rfl, rfl, rfl, hwx⟩ := hcut
        have hSx := hS1.next hwx
        clear hP hQ hR hB hA hS1 cP0 cP1 zP cQ0 cQ1 cQ2 cQ3 cQ4 zQ cR0 cR1 cR2 zR
        by_cases hr : rn = 0
        · have hT : (triAt pe pn a b c d h re rn ru 2) = (triAt pe pn a b c d h re rn ru 1) := by rw [show (triAt pe pn a b c d h re rn ru 2) = addT (triAt pe pn a b c d h re rn ru 1) pn rn c d from rfl, hr, addT_zero]
          have hde : de5 rn = 0 := by rw [hr]; rfl
          rw [hde]
          clear hde
          have HR := Lib.hid hr
          have HT := Lib.hid hT
          clear hr hT
          obtain ⟨v, hv⟩ : ∃ v, ok5 pn rn c d = v := ⟨_, rfl⟩
          rw [hv]
          have HV := Lib.hid hv
          clear hv
          cases v
          · go_wp2_with fail
            go_ret
            exact ⟨ret_bool (by rw [decide_eq_false (prM_f2 HV.out)]), hSx.2.2.2.1⟩
          · go_wp2_with fail
            go_roundw
            case rel => exact ⟨2, n, ga, ca, gb, cb, gc, cc, by omega, n0, by omega, Lib.hid (by rw [HT.out]; exact HN.out), Lib.hid ⟨fun _ => HK.out.1 (by omega), fun _ => HV.out⟩, by go_num, rfl, rfl, rfl, by rw [HT.out]; exact hSx⟩
            case measure => simp [intOf]
        · have hT : (triAt pe pn a b c d h re rn ru 2) = (triAt pe pn a b c d h re rn ru 1) ++ [(sN pn rn c d, eN pn rn c d, dN rn)] := by rw [show (triAt pe pn a b c d h re rn ru 2) = addT (triAt pe pn a b c d h re rn ru 1) pn rn c d from rfl, addT_go hr]
          have hok := ok5_eq (p := pn) (lo := c) (hi := d) hr
          rw [lo5_eq hr, hi5_eq hr, de5_eq hr, hok]
          have hd := dN_pos rn
          obtain ⟨s, hs⟩ : ∃ s, sN pn rn c d = s := ⟨_, rfl⟩
          obtain ⟨e, he⟩ : ∃ e, eN pn rn c d = e := ⟨_, rfl⟩
          obtain ⟨dd, hdd⟩ : ∃ dd, dN rn = dd := ⟨_, rfl⟩
          rw [hs, he, hdd]
          rw [hs, he, hdd] at hT
          rw [hdd] at hd
          have HT := Lib.hid hT
          have HV := Lib.hid hok
          clear hs he hdd hT hok hr
          have hX0 : Sx w (.cells #[.int .i64 pe, .int .i64 pn] 25) (.cells #[.int .i64 a, .int .i64 b, .int .i64 c, .int .i64 d, .int .i64 h] 40) (.cells #[.int .i64 re, .int .i64 rn, .int .i64 ru] 43) ga ca (losT (triAt pe pn a b c d h re rn ru 1)) gb cb (hisT (triAt pe pn a b c d h re rn ru 1)) gc cc (desT (triAt pe pn a b c d h re rn ru 1)) wc := hSx
          clear hSx
          have hle0 : w.heap.size + 3 ≤ wc.heap.size := by have h1 := own_lt hX0.2.2.2.2.1; have h2 := own_ge hX0.2.2.2.2.1; omega
          go_wp2_with (first | (at_builtin; refine wpList_append_lies _ rfl (.tmp 74) (.tmp 76) _ rfl (w.heap.size + 3) 3 i0 _ 1 8 Tryz.underlying51 HI.out.1 HI.out.2.1 HI.out.2.2.1 HI.out.2.2.2 rfl (by omega) (.slice (some ⟨ga, 0, none⟩) n ca) n (ints (losT (triAt pe pn a b c d h re rn ru 1))) rfl (by have := hX0.2.2.2.2.1.alloc (.cells #[.int .i64 s] 3); unfold OwnI at this; rwa [losT_len, HN.out] at this) ⟨wc.heap.size, 0, none⟩ 1 1 [.int .i64 s] rfl rfl (new_one wc _) (one_cell _) (by omega) (by simp only [maxLen]; omega) (by omega) (by simp <;> omega) _ rfl ?_; intro g5 p5 w5 hown5 hgr5 hat5 hlt5; have hX1 := (hX0.app (by rw [losT_len, HN.out]) hown5 hgr5 hat5).rot; clear hX0 hown5 hgr5 hat5; have hle1 : w.heap.size + 3 ≤ w5.heap.size := (by have h1 := own_lt hX1.2.2.2.2.1; have h2 := own_ge hX1.2.2.2.2.1; omega)) | (at_builtin; refine wpList_append_lies _ rfl (.tmp 78) (.tmp 80) _ rfl (w.heap.size + 3) 3 i0 _ 1 8 Tryz.underlying51 HI.out.1 HI.out.2.1 HI.out.2.2.1 HI.out.2.2.2 rfl (by omega) (.slice (some ⟨gb, 0, none⟩) n cb) n (ints (hisT (triAt pe pn a b c d h re rn ru 1))) rfl (by have := hX1.2.2.2.2.1.alloc (.cells #[.int .i64 e] 3); unfold OwnI at this; rwa [hisT_len, HN.out] at this) ⟨w5.heap.size, 0, none⟩ 1 1 [.int .i64 e] rfl rfl (new_one w5 _) (one_cell _) (by omega) (by simp only [maxLen]; omega) (by omega) (by simp <;> omega) _ rfl ?_; intro g6 p6 w6 hown6 hgr6 hat6 hlt6; have hX2 := (hX1.app (by rw [hisT_len, HN.out]) hown6 hgr6 hat6).rot; clear hX1 hown6 hgr6 hat6; have hle2 : w.heap.size + 3 ≤ w6.heap.size := (by have h1 := own_lt hX2.2.2.2.2.1; have h2 := own_ge hX2.2.2.2.2.1; omega)) | (at_builtin; refine wpList_append_lies _ rfl (.tmp 82) (.tmp 84) _ rfl (w.heap.size + 3) 3 i0 _ 1 8 Tryz.underlying51 HI.out.1 HI.out.2.1 HI.out.2.2.1 HI.out.2.2.2 rfl (by omega) (.slice (some ⟨gc, 0, none⟩) n cc) n (ints (desT (triAt pe pn a b c d h re rn ru 1))) rfl (by have := hX2.2.2.2.2.1.alloc (.cells #[.int .i64 dd] 3); unfold OwnI at this; rwa [desT_len, HN.out] at this) ⟨w6.heap.size, 0, none⟩ 1 1 [.int .i64 dd] rfl rfl (new_one w6 _) (one_cell _) (by omega) (by simp only [maxLen]; omega) (by omega) (by simp <;> omega) _ rfl ?_; intro g7 p7 w7 hown7 hgr7 hat7 hlt7; have hX3 := (hX2.app (by rw [desT_len, HN.out]) hown7 hgr7 hat7).rot; clear hX2 hown7 hgr7 hat7; have hle3 : w.heap.size + 3 ≤ w7.heap.size := (by have h1 := own_lt hX3.2.2.2.2.1; have h2 := own_ge hX3.2.2.2.2.1; omega)))
          go_roundw
          case rel => exact ⟨2, n + 1, g5, p5, g6, p6, g7, p7, by omega, by omega, by omega, Lib.hid (by rw [HT.out, List.length_append, HN.out]; rfl), Lib.hid ⟨fun _ => HK.out.1 (by omega), fun _ => HV.out⟩, by go_num, rfl, rfl, rfl, by rw [HT.out]; unfold St; rw [losT_snoc, hisT_snoc, desT_snoc]; exact hX3⟩
          case measure => simp [intOf]
    · rw [show (((2 : Nat) : Int)) = (2 : Int) from rfl]
      have hiff := allT_iff (pe := pe) (pn := pn) (a := a) (b := b) (c := c) (d := d) (h := h) (re := re) (rn := rn) (ru := ru) q6 q7 r4 (HK.out.1 (by omega)) (HK.out.2 (by omega))
      have hok : ∀ x ∈ (triAt pe pn a b c d h re rn ru 2), TOk x := addT_ok (addT_ok (by intro x hx; simp only [tri0, List.mem_singleton] at hx; subst hx; exact ⟨⟨by show (-100 : Int) ≤ 0; omega, by show (0 : Int) ≤ 100; omega⟩, ⟨by show -100 ≤ h; omega, by show h ≤ 100; omega⟩, ⟨r4, r5⟩⟩) (by omega) (by omega) (by omega) (by omega) (by omega) (by omega) (by omega) (by omega)) (by omega) (by omega) (by omega) (by omega) (by omega) (by omega) (by omega) (by omega)
      generalize (triAt pe pn a b c d h re rn ru 2) = T at HN hS hiff hok
      have hV : AllT T → decide (PrM pe pn a b c d h re rn ru) = true := fun z => decide_eq_true (hiff.1 z)
      have hF : ¬ AllT T → decide (PrM pe pn a b c d h re rn ru) = false := fun z => decide_eq_false (fun y => z (hiff.2 y))
      have HV := Lib.hid hV
      have HF := Lib.hid hF
      have HO := Lib.hid hok
      clear hV hF hok hiff HK
      go_wp2_with fail
      go_loopw [17] (fun s17 w2 => ∃ i : Nat, i ≤ n ∧ s17 = .int .i64 i ∧ Hid (∀ x ∈ T.take i, ∀ y ∈ T, Le x.1 x.2.2 y.2.1 y.2.2) ∧ St w (.cells #[.int .i64 pe, .int .i64 pn] 25) (.cells #[.int .i64 a, .int .i64 b, .int .i64 c, .int .i64 d, .int .i64 h] 40) (.cells #[.int .i64 re, .int .i64 rn, .int .i64 ru] 43) T ga ca gb cb gc cc w2) (fun s17 _ => (n - intOf s17).toNat)
      case atStart => exact ⟨0, by omega, rfl, Lib.hid (by simp), hS⟩
      case round =>
        clear hS
        obtain ⟨i, i1, rfl, HI2, hS⟩ := hrel
        by_cases hlt : i < n
        · have hi : i < T.length := by rw [HN.out]; exact hlt
          have hi3 : (i : Int) < (n : Int) := by omega
          have hi4 : (0 : Int) ≤ (i : Int) := by omega
          go_wp2_with fail
          go_loopw [18] (fun s18 w3 => ∃ j : Nat, j ≤ n ∧ s18 = .int .i64 j ∧ Hid (∀ y ∈ T.take j, Le (T[i]'hi).1 (T[i]'hi).2.2 y.2.1 y.2.2) ∧ St w (.cells #[.int .i64 pe, .int .i64 pn] 25) (.cells #[.int .i64 a, .int .i64 b, .int .i64 c, .int .i64 d, .int .i64 h] 40) (.cells #[.int .i64 re, .int .i64 rn, .int .i64 ru] 43) T ga ca gb cb gc cc w3) (fun s18 _ => (n - intOf s18).toNat)
          case atStart => exact ⟨0, by omega, rfl, Lib.hid (by simp), hS⟩
          case round =>
            clear hS
            obtain ⟨j, j1, rfl, HJ, hS⟩ := hrel
            by_cases hlj : j < n
            · have hj : j < T.length := by rw [HN.out]; exact hlj
              have hj3 : (j : Int) < (n : Int) := by omega
              have hj4 : (0 : Int) ≤ (j : Int) := by omega
              obtain ⟨ca0, cb0, cc0⟩ := hS.cells i hi
              obtain ⟨ca1, cb1, cc1⟩ := hS.cells j hj
              have o1 := HO.out T[i] (List.getElem_mem hi)
              have o2 := HO.out T[j] (List.getElem_mem hj)
              obtain ⟨s, hs⟩ : ∃ s, T[i].1 = s := ⟨_, rfl⟩
              obtain ⟨d1, hd1⟩ : ∃ s, T[i].2.2 = s := ⟨_, rfl⟩
              obtain ⟨e, he⟩ : ∃ s, T[j].2.1 = s := ⟨_, rfl⟩
              obtain ⟨d2, hd2⟩ : ∃ s, T[j].2.2 = s := ⟨_, rfl⟩
              obtain ⟨⟨a0, a1⟩, _, b0, b1⟩ := o1
              obtain ⟨_, ⟨e0, e1⟩, f0, f1⟩ := o2
              rw [hs] at a0 a1 ca0
              rw [hd1] at b0 b1 cc0
              rw [he] at e0 e1 cb1
              rw [hd2] at f0 f1 cc1
              obtain ⟨m10, m11⟩ := mulD (a := s) (b := d2) (p := 100) (q := 20) (by omega) (by omega) (by omega) (by omega)
              obtain ⟨m20, m21⟩ := mulD (a := e) (b := d1) (p := 100) (q := 20) (by omega) (by omega) (by omega) (by omega)
              simp only [Int.reduceMul, Int.reduceNeg] at m10 m11 m20 m21
              have HX : Hid (T[i].1 = s ∧ T[i].2.2 = d1 ∧ T[j].2.1 = e ∧ T[j].2.2 = d2) := Lib.hid ⟨hs, hd1, he, hd2⟩
              clear hs hd1 he hd2
              clear cb0 ca1
              by_cases hle : e * d1 < s * d2
              · have hdec : decide (e * d1 < s * d2) = true := by simpa using hle
                have hW1 : IntKind.i64.wrap (s * d2) = s * d2 := IntWalk.i64_in _ (by omega)
                have hW2 : IntKind.i64.wrap (e * d1) = e * d1 := IntWalk.i64_in _ (by omega)
                go_wp2_with fail
                go_quiet (fail)
                clear hW1 hW2
                go_wp2_with fail
                go_ret
                exact ⟨ret_bool (by rw [HF.out (fun z => by have := z T[i] (List.getElem_mem hi) T[j] (List.getElem_mem hj); unfold Le at this; rw [HX.out.1, HX.out.2.1, HX.out.2.2.1, HX.out.2.2.2] at this; omega)]), by first | exact hS.2.2.2.1 | exact bel_drewN hS.2.2.2.1 _⟩
              · have hdec : decide (e * d1 < s * d2) = false := by simpa using hle
                have hW1 : IntKind.i64.wrap (s * d2) = s * d2 := IntWalk.i64_in _ (by omega)
                have hW2 : IntKind.i64.wrap (e * d1) = e * d1 := IntWalk.i64_in _ (by omega)
                go_wp2_with fail
                go_quiet (fail)
                clear hW1 hW2
                go_wp2_with fail
                go_roundw
                case rel => exact ⟨j + 1, by omega, by go_num, Lib.hid (by intro y hy; rw [List.take_succ_eq_append_getElem hj, List.mem_append, List.mem_singleton] at hy; rcases hy with hy | rfl; exact HJ.out y hy; unfold Le; rw [HX.out.1, HX.out.2.1, HX.out.2.2.1, HX.out.2.2.2]; omega), by first | exact hS | exact hS.next (bel_drewN (Below.refl _ _) _)⟩
                case measure => simp [intOf]; omega
            · obtain rfl : j = n := by omega
              go_wp2_with fail
              go_roundw
              case rel => exact ⟨i + 1, by omega, by go_num, Lib.hid (by intro x hx y hy; rw [List.take_succ_eq_append_getElem hi, List.mem_append, List.mem_singleton] at hx; rcases hx with hx | rfl; exact HI2.out x hx y hy; exact HJ.out y (by rw [List.take_of_length_le (by rw [HN.out]; omega)]; exact hy)), hS⟩
              case measure => simp [intOf]; omega
        · obtain rfl : i = n := by omega
          have hv : decide (PrM pe pn a b c d h re rn ru) = true := HV.out (fun x hx y hy => HI2.out x (by rw [List.take_of_length_le (by rw [HN.out]; omega)]; exact hx) y hy)
          have HVV := Lib.hid hv
          clear hv
          go_wp2_with fail
          go_ret
          exact ⟨ret_bool (by rw [HVV.out]), hS.2.2.2.1⟩
set_option maxHeartbeats 4000000 in
theorem sSh_any (pe pn a b c d h re rn ru : Int) (w : World) :
    Calls Tryz.prog 97 #[.agg #[.int .i64 pe, .int .i64 pn], .agg #[.int .i64 a, .int .i64 b, .int .i64 c, .int .i64 d, .int .i64 h], .agg #[.int .i64 re, .int .i64 rn, .int .i64 ru]] w fun E w' => E = .returned (.bool (shB pe pn a b c d h re rn ru)) ∧ Below w.heap.size w w' := by
  cases hp : plB pe pn
  · rw [shB_f1 hp]
    have HP := Lib.hid hp
    clear hp
    go_enter Tryz.func97, Tryz.ntmps97
    go_wp2_with fail
    refine (sPV_is _ HP.out).mono ?_; rintro E w1 ⟨rfl, hw1⟩
    obtain ⟨hP1, hQ1, hR1, hB1⟩ := ownb3 hw1
    obtain ⟨cP1_0, cP1_1, fP1_0, fP1_1, zP1⟩ := blk2 hP1
    obtain ⟨cQ1_0, cQ1_1, cQ1_2, cQ1_3, cQ1_4, fQ1_0, fQ1_1, fQ1_2, fQ1_3, fQ1_4, zQ1⟩ := blk5 hQ1
    obtain ⟨cR1_0, cR1_1, cR1_2, fR1_0, fR1_1, fR1_2, zR1⟩ := blk3 hR1
    go_wp2
    go_ret
    exact ⟨rfl, hB1⟩
  · skip
    cases hb : blB a b c d h
    · rw [shB_f2 hb]
      have HP := Lib.hid hp
      have HB := Lib.hid hb
      clear hp hb
      go_enter Tryz.func97, Tryz.ntmps97
      go_wp2_with fail
      refine (sPV_is _ HP.out).mono ?_; rintro E w1 ⟨rfl, hw1⟩
      obtain ⟨hP1, hQ1, hR1, hB1⟩ := ownb3 hw1
      obtain ⟨cP1_0, cP1_1, fP1_0, fP1_1, zP1⟩ := blk2 hP1
      obtain ⟨cQ1_0, cQ1_1, cQ1_2, cQ1_3, cQ1_4, fQ1_0, fQ1_1, fQ1_2, fQ1_3, fQ1_4, zQ1⟩ := blk5 hQ1
      obtain ⟨cR1_0, cR1_1, cR1_2, fR1_0, fR1_1, fR1_2, zR1⟩ := blk3 hR1
      go_wp2_with fail
      refine (sBV_is _ HB.out).mono ?_; rintro E w2 ⟨rfl, hw2⟩
      have hP2 := blk_next hP1 hw2
      have hQ2 := blk_next hQ1 hw2
      have hR2 := blk_next hR1 hw2
      have hB2 := bel_next hB1 hw2
      obtain ⟨cP2_0, cP2_1, fP2_0, fP2_1, zP2⟩ := blk2 hP2
      obtain ⟨cQ2_0, cQ2_1, cQ2_2, cQ2_3, cQ2_4, fQ2_0, fQ2_1, fQ2_2, fQ2_3, fQ2_4, zQ2⟩ := blk5 hQ2
      obtain ⟨cR2_0, cR2_1, cR2_2, fR2_0, fR2_1, fR2_2, zR2⟩ := blk3 hR2
      go_wp2
      go_ret
      exact ⟨rfl, hB2⟩
    · skip
      cases hr : ryB re rn ru
      · rw [shB_f3 hr]
        have HP := Lib.hid hp
        have HB := Lib.hid hb
        have HR := Lib.hid hr
        clear hp hb hr
        go_enter Tryz.func97, Tryz.ntmps97
        go_wp2_with fail
        refine (sPV_is _ HP.out).mono ?_; rintro E w1 ⟨rfl, hw1⟩
        obtain ⟨hP1, hQ1, hR1, hB1⟩ := ownb3 hw1
        obtain ⟨cP1_0, cP1_1, fP1_0, fP1_1, zP1⟩ := blk2 hP1
        obtain ⟨cQ1_0, cQ1_1, cQ1_2, cQ1_3, cQ1_4, fQ1_0, fQ1_1, fQ1_2, fQ1_3, fQ1_4, zQ1⟩ := blk5 hQ1
        obtain ⟨cR1_0, cR1_1, cR1_2, fR1_0, fR1_1, fR1_2, zR1⟩ := blk3 hR1
        go_wp2_with fail
        refine (sBV_is _ HB.out).mono ?_; rintro E w2 ⟨rfl, hw2⟩
        have hP2 := blk_next hP1 hw2
        have hQ2 := blk_next hQ1 hw2
        have hR2 := blk_next hR1 hw2
        have hB2 := bel_next hB1 hw2
        obtain ⟨cP2_0, cP2_1, fP2_0, fP2_1, zP2⟩ := blk2 hP2
        obtain ⟨cQ2_0, cQ2_1, cQ2_2, cQ2_3, cQ2_4, fQ2_0, fQ2_1, fQ2_2, fQ2_3, fQ2_4, zQ2⟩ := blk5 hQ2
        obtain ⟨cR2_0, cR2_1, cR2_2, fR2_0, fR2_1, fR2_2, zR2⟩ := blk3 hR2
        go_wp2_with fail
        refine (sRV_is _ HR.out).mono ?_; rintro E w3 ⟨rfl, hw3⟩
        have hP3 := blk_next hP2 hw3
        have hQ3 := blk_next hQ2 hw3
        have hR3 := blk_next hR2 hw3
        have hB3 := bel_next hB2 hw3
        obtain ⟨cP3_0, cP3_1, fP3_0, fP3_1, zP3⟩ := blk2 hP3
        obtain ⟨cQ3_0, cQ3_1, cQ3_2, cQ3_3, cQ3_4, fQ3_0, fQ3_1, fQ3_2, fQ3_3, fQ3_4, zQ3⟩ := blk5 hQ3
        obtain ⟨cR3_0, cR3_1, cR3_2, fR3_0, fR3_1, fR3_2, zR3⟩ := blk3 hR3
        go_wp2
        go_ret
        exact ⟨rfl, hB3⟩
      · rw [shB_t hp hb hr]
        have HP := Lib.hid hp
        have HB := Lib.hid hb
        have HR := Lib.hid hr
        clear hp hb hr
        go_enter Tryz.func97, Tryz.ntmps97
        go_wp2_with fail
        refine (sPV_is _ HP.out).mono ?_; rintro E w1 ⟨rfl, hw1⟩
        obtain ⟨hP1, hQ1, hR1, hB1⟩ := ownb3 hw1
        obtain ⟨cP1_0, cP1_1, fP1_0, fP1_1, zP1⟩ := blk2 hP1
        obtain ⟨cQ1_0, cQ1_1, cQ1_2, cQ1_3, cQ1_4, fQ1_0, fQ1_1, fQ1_2, fQ1_3, fQ1_4, zQ1⟩ := blk5 hQ1
        obtain ⟨cR1_0, cR1_1, cR1_2, fR1_0, fR1_1, fR1_2, zR1⟩ := blk3 hR1
        go_wp2_with fail
        refine (sBV_is _ HB.out).mono ?_; rintro E w2 ⟨rfl, hw2⟩
        have hP2 := blk_next hP1 hw2
        have hQ2 := blk_next hQ1 hw2
        have hR2 := blk_next hR1 hw2
        have hB2 := bel_next hB1 hw2
        obtain ⟨cP2_0, cP2_1, fP2_0, fP2_1, zP2⟩ := blk2 hP2
        obtain ⟨cQ2_0, cQ2_1, cQ2_2, cQ2_3, cQ2_4, fQ2_0, fQ2_1, fQ2_2, fQ2_3, fQ2_4, zQ2⟩ := blk5 hQ2
        obtain ⟨cR2_0, cR2_1, cR2_2, fR2_0, fR2_1, fR2_2, zR2⟩ := blk3 hR2
        go_wp2_with fail
        refine (sRV_is _ HR.out).mono ?_; rintro E w3 ⟨rfl, hw3⟩
        have hP3 := blk_next hP2 hw3
        have hQ3 := blk_next hQ2 hw3
        have hR3 := blk_next hR2 hw3
        have hB3 := bel_next hB2 hw3
        obtain ⟨cP3_0, cP3_1, fP3_0, fP3_1, zP3⟩ := blk2 hP3
        obtain ⟨cQ3_0, cQ3_1, cQ3_2, cQ3_3, cQ3_4, fQ3_0, fQ3_1, fQ3_2, fQ3_3, fQ3_4, zQ3⟩ := blk5 hQ3
        obtain ⟨cR3_0, cR3_1, cR3_2, fR3_0, fR3_1, fR3_2, zR3⟩ := blk3 hR3
        go_wp2_with fail
        refine (sMeets_any _ _ _ _ _ _ _ _ _ _ _ HP.out HB.out HR.out).mono ?_; rintro E w4 ⟨rfl, hw4⟩
        have hP4 := blk_next hP3 hw4
        have hQ4 := blk_next hQ3 hw4
        have hR4 := blk_next hR3 hw4
        have hB4 := bel_next hB3 hw4
        obtain ⟨cP4_0, cP4_1, fP4_0, fP4_1, zP4⟩ := blk2 hP4
        obtain ⟨cQ4_0, cQ4_1, cQ4_2, cQ4_3, cQ4_4, fQ4_0, fQ4_1, fQ4_2, fQ4_3, fQ4_4, zQ4⟩ := blk5 hQ4
        obtain ⟨cR4_0, cR4_1, cR4_2, fR4_0, fR4_1, fR4_2, zR4⟩ := blk3 hR4
        go_wp2
        go_ret
        exact ⟨rfl, hB4⟩
theorem sSh_is {pe pn a b c d h re rn ru : Int} {r : Bool} (w : World) (h_ : shB pe pn a b c d h re rn ru = r) : Calls Tryz.prog 97 #[.agg #[.int .i64 pe, .int .i64 pn], .agg #[.int .i64 a, .int .i64 b, .int .i64 c, .int .i64 d, .int .i64 h], .agg #[.int .i64 re, .int .i64 rn, .int .i64 ru]] w fun E w' => E = .returned (.bool r) ∧ Below w.heap.size w w' := by subst h_; exact sSh_any pe pn a b c d h re rn ru w
end Go.Proofs.YtbklgpghonigjaaGreat
