/- FnWeekOf: whatever the input, the law returns true, and its arguments read as they did. No conditions beyond those of the statement's row. -/
import Derived.Test.YtkeghnbckndgfaaDr1
import Derived.Test.YtkeghnbckndgfaaCf
import Derived.Test.YtkeghnbckndgfaaHlp2
namespace Go.Proofs.Ytkeghnbckndgfaa.fnWeekOf
open Go.Proofs.Ytkeghnbckndgfaa
open Go.ChangeShapes Go.WideShapes Go.ChangeAt Go.RowKit Go.Joins
set_option linter.unusedVariables false
set_option linter.unusedSimpArgs false
set_option linter.unnecessarySimpa false

theorem own : ownKnob Try.prog.godebug = none := by kernel_rfl
theorem laidOut : laidOutB Try.prog = true := by kernel_rfl

set_option maxRecDepth 100000 in
set_option maxHeartbeats 4000000 in
theorem walk (w : World) (a0 : Option Addr) (len0 cap0 : Nat) (w0 : CodeOk w a0 len0 cap0) :
    Calls Try.prog 3 #[.slice a0 len0 cap0] w fun e w' => e = .returned (.bool true) ∧ Below w.heap.size w w' := by
  by_cases hl : 1048576 < len0
  · have w0' := w0.2.1
    unfold maxLen at w0'
    clear w0
    go_enter Try.func3, Try.ntmps3
    go_wp2
    go_ret
    exact ⟨rfl, Below.refl _ _⟩
  · have w0' := w0.2.1
    unfold maxLen at w0'
    have hle := w0.1
    have HW := Lib.hid w0
    clear w0
    go_enter Try.func3, Try.ntmps3
    go_wp2_with fail
    refine (drWeekOf_any _ _ _ _ HW.out).mono ?_; rintro e w1 ⟨y, m, d, rfl, y0, y1, m0, m1, d0, d1, hB0⟩
    cases h : valB y m d
    · go_wp2_with fail
      refine (iWO_f _ _ _ _ h).mono ?_; rintro e w2 ⟨rfl, hw2⟩
      obtain ⟨hP2, hB2⟩ := ownb hw2
      obtain ⟨cP2_0, cP2_1, cP2_2, fP2_0, fP2_1, fP2_2, zP2⟩ := blk3 hP2
      go_wp2_with fail
      refine (sWO_f _ _ _ _ h).mono ?_; rintro e w3 ⟨rfl, hw3⟩
      have hP3 := blk_next hP2 hw3
      have hB3 := bel_next hB2 hw3
      obtain ⟨cP3_0, cP3_1, cP3_2, fP3_0, fP3_1, fP3_2, zP3⟩ := blk3 hP3
      go_wp2_with fail
      refine (iDV_any _ _ _ _).mono ?_; rintro e w4 ⟨rfl, hw4⟩
      rw [h]
      go_wp2_with fail
      refine (alive_any _).mono ?_; rintro e w' ⟨rfl, rfl⟩
      go_wp2
      go_ret
      exact ⟨rfl, bel_next hB0 (bel_next hB3 hw4)⟩
    · have hn := num_bd h
      have hin := num_in h
      go_wp2_with fail
      refine (iWO_t _ _ _ _ h).mono ?_; rintro e w2 ⟨Y, rfl, q1, q2, q3, q4, hw2⟩
      obtain ⟨hP2, hB2⟩ := ownb hw2
      obtain ⟨cP2_0, cP2_1, cP2_2, fP2_0, fP2_1, fP2_2, zP2⟩ := blk3 hP2
      obtain ⟨K, hK⟩ : ∃ K, (num y m d - fst Y) / 7 + 1 = K := ⟨_, rfl⟩
      rw [hK]
      have HK := Lib.hid hK
      clear hK
      go_wp2_with fail
      refine (sWO_t _ _ _ _ h).mono ?_; rintro e w3 ⟨Z, rfl, r1, r2, r3, r4, hw3⟩
      obtain rfl := fst_unique q1 q2 r1 r2
      rw [HK.out]
      clear r1 r2 r3 r4
      have hP3 := blk_next hP2 hw3
      have hB3 := bel_next hB2 hw3
      obtain ⟨cP3_0, cP3_1, cP3_2, fP3_0, fP3_1, fP3_2, zP3⟩ := blk3 hP3
      have hfb := fst_bd q3 (show Y ≤ 4001 by omega)
      have k0 : 1 ≤ K ∧ K ≤ 300000 := by have := HK.out; omega
      clear hfb
      have hr : 0 ≤ num y m d + (4 - (num y m d % 7 + 1)) ∧ num y m d + (4 - (num y m d % 7 + 1)) ≤ 1460969 := by omega
      have HR := Lib.hid hr
      have ew : IntKind.i64.wrap (4 - (num y m d % 7 + 1)) = 4 - (num y m d % 7 + 1) := IntWalk.i64_in _ (by omega)
      have HQ := Lib.hid (And.intro q1 q2)
      have HN := Lib.hid hn
      clear hr q1 q2 hin hn
      go_upto_region 10 with fail
      go_cut [8, 9] (fun s8 s9 wx => ∃ C : Nat, ∃ b c : Int, s8 = .pointer (some ⟨C, 0, none⟩) ∧ s9 = .bool true ∧ wx.heap[C]? = some (.cells #[.int .i64 Y, .int .i64 b, .int .i64 c] 24 (0, 0)) ∧ wx.heap[w1.heap.size]? = some (.cells #[.int .i64 y, .int .i64 m, .int .i64 d] 24 (0, 0)) ∧ Below w1.heap.size w1 wx)
      case first =>
        refine wp_region_held_drew (S := (fun w' => w'.heap[w1.heap.size]? = some (.cells #[.int .i64 y, .int .i64 m, .int .i64 d] 24) ∧ Below w1.heap.size w1 w')) (by kernel_rfl) ⟨hP3, hB3.drew⟩ (fun hHeld => ?_)
        obtain ⟨hP_0, hB_0⟩ := id hHeld
        refine wpAnyH_take (i := 0) (oi := _) (v := ?_) rfl (by kernel_rfl) (by kernel_rfl) (by kernel_rfl) (fun _ _ _ h => h) (Or.inl ⟨by rfl, ?_⟩) (by assumption) ?_
        (rotate_left); (focus (intro wv hSw; (obtain ⟨qP, qB⟩ := hSw); obtain ⟨_, _, _, _, _, _, _⟩ := blk3 qP; go_simp; (try with_reducible rfl)))
        try simp only [Act.put, List.getElem_toArray, List.getElem_cons_succ, List.getElem_cons_zero, List.setIfInBounds_toArray, List.set_cons_zero, List.set_cons_succ]
        refine wpAnyH_take (i := 1) (oi := _) (v := ?_) rfl (by kernel_rfl) (by kernel_rfl) (by kernel_rfl) (fun _ _ _ h => h) (Or.inl ⟨by rfl, ?_⟩) (by assumption) ?_
        (rotate_left); (focus (intro wv hSw; (obtain ⟨qP, qB⟩ := hSw); obtain ⟨_, _, _, _, _, _, _⟩ := blk3 qP; go_simp; (try with_reducible rfl)))
        try simp only [Act.put, List.getElem_toArray, List.getElem_cons_succ, List.getElem_cons_zero, List.setIfInBounds_toArray, List.set_cons_zero, List.set_cons_succ]
        refine wpAnyH_ready (rs := [2, 8]) (by kernel_rfl) (by simp) ?_
        refine AllReadyH.cons (o := _) rfl (fun K hK => ?_) (AllReadyH.cons (o := _) rfl (fun K hK => ?_) (AllReadyH.nil))
        · go_simp
          (go_at_call 10; refine (iWD_t _ _ _ _ h).mono ?_; rintro e x0c ⟨rfl, hw_0c⟩)
          refine hK.out _ _ ⟨blk_next hP_0 hw_0c, bel_next hB_0 hw_0c⟩ (fun hHeld => ?_)
          clear hK K
          try simp only [Act.put, List.getElem_toArray, List.getElem_cons_succ, List.getElem_cons_zero, List.setIfInBounds_toArray, List.set_cons_zero, List.set_cons_succ]
          obtain ⟨hP_0c, hB_0c⟩ := id hHeld
          refine wpAnyH_take (i := 3) (oi := _) (v := ?_) rfl (by kernel_rfl) (by kernel_rfl) (by kernel_rfl) (fun _ _ _ h => h) (Or.inl ⟨by rfl, ?_⟩) (by assumption) ?_
          (rotate_left); (focus (intro wv hSw; (obtain ⟨qP, qB⟩ := hSw); obtain ⟨_, _, _, _, _, _, _⟩ := blk3 qP; go_simp; (try with_reducible rfl)))
          try simp only [Act.put, List.getElem_toArray, List.getElem_cons_succ, List.getElem_cons_zero, List.setIfInBounds_toArray, List.set_cons_zero, List.set_cons_succ]
          refine wpAnyH_ready (rs := [4, 8]) (by kernel_rfl) (by simp) ?_
          refine AllReadyH.cons (o := _) rfl (fun K hK => ?_) (AllReadyH.cons (o := _) rfl (fun K hK => ?_) (AllReadyH.nil))
          · go_simp
            (go_at_call 9; refine (iDA_t _ _ _ _ _ h HR.out.1 HR.out.2).mono ?_; rintro e x0cc ⟨a, b, c, rfl, hv, hq, hw_0cc⟩)
            refine hK.out _ _ ⟨blk_next hP_0c hw_0cc, bel_next hB_0c hw_0cc⟩ (fun hHeld => ?_)
            clear hK K
            try simp only [Act.put, List.getElem_toArray, List.getElem_cons_succ, List.getElem_cons_zero, List.setIfInBounds_toArray, List.set_cons_zero, List.set_cons_succ]
            obtain ⟨hP_0cc, hB_0cc⟩ := id hHeld
            have hA3 : a = Y := by
              have hi := num_in hv
              have h1 := HQ.out
              have h2 := HN.out
              have tf : dby a ≤ num y m d - num y m d % 7 + 3 ∧ num y m d - num y m d % 7 + 3 < dby (a + 1) := by omega
              obtain ⟨t1, t2, _⟩ := thu_fst tf.1 tf.2
              exact fst_unique t1 t2 h1.1 h1.2
            subst hA3
            clear hq
            refine wpAnyH_take (i := 5) (oi := _) (v := ?_) rfl (by kernel_rfl) (by kernel_rfl) (by kernel_rfl) (fun _ _ _ h => h) (Or.inl ⟨by rfl, ?_⟩) (by assumption) ?_
            (rotate_left); (focus (intro wv hSw; (obtain ⟨qP, qB⟩ := hSw); obtain ⟨_, _, _, _, _, _, _⟩ := blk3 qP; go_simp; (try with_reducible rfl)))
            try simp only [Act.put, List.getElem_toArray, List.getElem_cons_succ, List.getElem_cons_zero, List.setIfInBounds_toArray, List.set_cons_zero, List.set_cons_succ]
            refine wpAnyH_take (i := 6) (oi := _) (v := ?_) rfl (by kernel_rfl) (by kernel_rfl) (by kernel_rfl) (fun _ _ _ h => h) (Or.inl ⟨by rfl, ?_⟩) (by assumption) ?_
            (rotate_left); (focus (intro wv hSw; (obtain ⟨qP, qB⟩ := hSw); obtain ⟨_, _, _, _, _, _, _⟩ := blk3 qP; go_simp; (try with_reducible rfl)))
            try simp only [Act.put, List.getElem_toArray, List.getElem_cons_succ, List.getElem_cons_zero, List.setIfInBounds_toArray, List.set_cons_zero, List.set_cons_succ]
            refine wpAnyH_take (i := 7) (oi := _) (v := ?_) rfl (by kernel_rfl) (by kernel_rfl) (by kernel_rfl) (fun _ _ _ h => h) (Or.inl ⟨by rfl, ?_⟩) (by assumption) ?_
            (rotate_left); (focus (intro wv hSw; (obtain ⟨qP, qB⟩ := hSw); obtain ⟨_, _, _, _, _, _, _⟩ := blk3 qP; go_simp; (try with_reducible rfl)))
            try simp only [Act.put, List.getElem_toArray, List.getElem_cons_succ, List.getElem_cons_zero, List.setIfInBounds_toArray, List.set_cons_zero, List.set_cons_succ]
            refine wpAnyH_ready (rs := [8]) (by kernel_rfl) (by simp) ?_
            refine AllReadyH.cons (o := _) rfl (fun K hK => ?_) (AllReadyH.nil)
            go_simp
            refine hK.out _ _ ⟨blk_old hP_0cc _, hB_0cc.alloc (by have := hB_0cc.size; omega) _⟩ (fun hHeld => ?_)
            clear hK K
            try simp only [Act.put, List.getElem_toArray, List.getElem_cons_succ, List.getElem_cons_zero, List.setIfInBounds_toArray, List.set_cons_zero, List.set_cons_succ]
            obtain ⟨hP_0cca, hB_0cca⟩ := id hHeld
            have hA_0cca : (x0cc.alloc (.cells #[.int .i64 0, .int .i64 0, .int .i64 0] 24)).heap[x0cc.heap.size]? = some (.cells #[.int .i64 0, .int .i64 0, .int .i64 0] 24) := by have := blk_new (x0cc) (.cells #[.int .i64 0, .int .i64 0, .int .i64 0] 24); simpa using this
            have zAP_0cca : w1.heap.size < x0cc.heap.size := by have := blk_lt hP_0cc; simpa using this
            have zAB_0cca : w1.heap.size ≤ x0cc.heap.size := by have := hB_0cc.size; simpa using this
            refine wpAnyH_ready (rs := [9]) (by kernel_rfl) (by simp) ?_
            refine AllReadyH.cons (o := _) rfl (fun K hK => ?_) (AllReadyH.nil)
            obtain ⟨sc0_0ccac, sc1_0ccac, sc2_0ccac, sf0_0ccac, sf1_0ccac, sf2_0ccac, sz_0ccac⟩ := blk3 hA_0cca
            go_simp
            refine hK.out _ _ ⟨blk_old hP_0cc _, hB_0cc.alloc (by have := hB_0cc.size; omega) _⟩ (fun hHeld => ?_)
            clear hK K
            try simp only [Act.put, List.getElem_toArray, List.getElem_cons_succ, List.getElem_cons_zero, List.setIfInBounds_toArray, List.set_cons_zero, List.set_cons_succ]
            obtain ⟨hP_0ccac, hB_0ccac⟩ := id hHeld
            have hA_0ccac : (x0cc.alloc (.cells #[.int .i64 a, .int .i64 b, .int .i64 c] 24)).heap[x0cc.heap.size]? = some (.cells #[.int .i64 a, .int .i64 b, .int .i64 c] 24) := by have := blk_new (x0cc) (.cells #[.int .i64 a, .int .i64 b, .int .i64 c] 24); simpa using this
            refine wpAnyH_take (i := 10) (oi := _) (v := ?_) rfl (by kernel_rfl) (by kernel_rfl) (by kernel_rfl) (fun _ _ _ h => h) (Or.inl ⟨by rfl, ?_⟩) (by assumption) ?_
            (rotate_left); (focus (intro wv hSw; (obtain ⟨qP, qB⟩ := hSw); obtain ⟨_, _, _, _, _, _, _⟩ := blk3 qP; go_simp; (try with_reducible rfl)))
            try simp only [Act.put, List.getElem_toArray, List.getElem_cons_succ, List.getElem_cons_zero, List.setIfInBounds_toArray, List.set_cons_zero, List.set_cons_succ]
            refine wpAnyH_done (by kernel_rfl) ?_ _
            go_wp2_with fail
            go_meet
            exact ⟨_, b, c, rfl, rfl, hA_0ccac, hP_0ccac, hB_0ccac⟩
          · go_simp
            refine hK.out _ _ ⟨blk_old hP_0c _, hB_0c.alloc (by have := hB_0c.size; omega) _⟩ (fun hHeld => ?_)
            clear hK K
            try simp only [Act.put, List.getElem_toArray, List.getElem_cons_succ, List.getElem_cons_zero, List.setIfInBounds_toArray, List.set_cons_zero, List.set_cons_succ]
            obtain ⟨hP_0ca, hB_0ca⟩ := id hHeld
            have hA_0ca : (x0c.alloc (.cells #[.int .i64 0, .int .i64 0, .int .i64 0] 24)).heap[x0c.heap.size]? = some (.cells #[.int .i64 0, .int .i64 0, .int .i64 0] 24) := by have := blk_new (x0c) (.cells #[.int .i64 0, .int .i64 0, .int .i64 0] 24); simpa using this
            have zAP_0ca : w1.heap.size < x0c.heap.size := by have := blk_lt hP_0c; simpa using this
            have zAB_0ca : w1.heap.size ≤ x0c.heap.size := by have := hB_0c.size; simpa using this
            refine wpAnyH_ready (rs := [4]) (by kernel_rfl) (by simp) ?_
            refine AllReadyH.cons (o := _) rfl (fun K hK => ?_) (AllReadyH.nil)
            go_simp
            (go_at_call 9; refine (iDA_t _ _ _ _ _ h HR.out.1 HR.out.2).mono ?_; rintro e x0cac ⟨a, b, c, rfl, hv, hq, hw_0cac⟩)
            refine hK.out _ _ ⟨blk_next hP_0ca hw_0cac, bel_next hB_0ca hw_0cac⟩ (fun hHeld => ?_)
            clear hK K
            try simp only [Act.put, List.getElem_toArray, List.getElem_cons_succ, List.getElem_cons_zero, List.setIfInBounds_toArray, List.set_cons_zero, List.set_cons_succ]
            obtain ⟨hP_0cac, hB_0cac⟩ := id hHeld
            have hA_0cac := blk_next hA_0ca hw_0cac
            have hA3 : a = Y := by
              have hi := num_in hv
              have h1 := HQ.out
              have h2 := HN.out
              have tf : dby a ≤ num y m d - num y m d % 7 + 3 ∧ num y m d - num y m d % 7 + 3 < dby (a + 1) := by omega
              obtain ⟨t1, t2, _⟩ := thu_fst tf.1 tf.2
              exact fst_unique t1 t2 h1.1 h1.2
            subst hA3
            clear hq
            refine wpAnyH_take (i := 5) (oi := _) (v := ?_) rfl (by kernel_rfl) (by kernel_rfl) (by kernel_rfl) (fun _ _ _ h => h) (Or.inl ⟨by rfl, ?_⟩) (by assumption) ?_
            (rotate_left); (focus (intro wv hSw; (obtain ⟨qP, qB⟩ := hSw); obtain ⟨_, _, _, _, _, _, _⟩ := blk3 qP; go_simp; (try with_reducible rfl)))
            try simp only [Act.put, List.getElem_toArray, List.getElem_cons_succ, List.getElem_cons_zero, List.setIfInBounds_toArray, List.set_cons_zero, List.set_cons_succ]
            refine wpAnyH_take (i := 6) (oi := _) (v := ?_) rfl (by kernel_rfl) (by kernel_rfl) (by kernel_rfl) (fun _ _ _ h => h) (Or.inl ⟨by rfl, ?_⟩) (by assumption) ?_
            (rotate_left); (focus (intro wv hSw; (obtain ⟨qP, qB⟩ := hSw); obtain ⟨_, _, _, _, _, _, _⟩ := blk3 qP; go_simp; (try with_reducible rfl)))
            try simp only [Act.put, List.getElem_toArray, List.getElem_cons_succ, List.getElem_cons_zero, List.setIfInBounds_toArray, List.set_cons_zero, List.set_cons_succ]
            refine wpAnyH_take (i := 7) (oi := _) (v := ?_) rfl (by kernel_rfl) (by kernel_rfl) (by kernel_rfl) (fun _ _ _ h => h) (Or.inl ⟨by rfl, ?_⟩) (by assumption) ?_
            (rotate_left); (focus (intro wv hSw; (obtain ⟨qP, qB⟩ := hSw); obtain ⟨_, _, _, _, _, _, _⟩ := blk3 qP; go_simp; (try with_reducible rfl)))
            try simp only [Act.put, List.getElem_toArray, List.getElem_cons_succ, List.getElem_cons_zero, List.setIfInBounds_toArray, List.set_cons_zero, List.set_cons_succ]
            refine wpAnyH_ready (rs := [9]) (by kernel_rfl) (by simp) ?_
            refine AllReadyH.cons (o := _) rfl (fun K hK => ?_) (AllReadyH.nil)
            obtain ⟨sc0_0cacc, sc1_0cacc, sc2_0cacc, sf0_0cacc, sf1_0cacc, sf2_0cacc, sz_0cacc⟩ := blk3 hA_0cac
            go_simp
            refine hK.out _ _ ⟨blk_store3 hP_0cac (Nat.ne_of_lt zAP_0ca) _ _ _, store3_bel hB_0cac zAB_0ca _ _ _⟩ (fun hHeld => ?_)
            clear hK K
            try simp only [Act.put, List.getElem_toArray, List.getElem_cons_succ, List.getElem_cons_zero, List.setIfInBounds_toArray, List.set_cons_zero, List.set_cons_succ]
            obtain ⟨hP_0cacc, hB_0cacc⟩ := id hHeld
            have hA_0cacc := blk3_put (a := .int .i64 a) (b := .int .i64 b) (c := .int .i64 c) hA_0cac
            refine wpAnyH_take (i := 10) (oi := _) (v := ?_) rfl (by kernel_rfl) (by kernel_rfl) (by kernel_rfl) (fun _ _ _ h => h) (Or.inl ⟨by rfl, ?_⟩) (by assumption) ?_
            (rotate_left); (focus (intro wv hSw; (obtain ⟨qP, qB⟩ := hSw); obtain ⟨_, _, _, _, _, _, _⟩ := blk3 qP; go_simp; (try with_reducible rfl)))
            try simp only [Act.put, List.getElem_toArray, List.getElem_cons_succ, List.getElem_cons_zero, List.setIfInBounds_toArray, List.set_cons_zero, List.set_cons_succ]
            refine wpAnyH_done (by kernel_rfl) ?_ _
            go_wp2_with fail
            go_meet
            exact ⟨_, b, c, rfl, rfl, hA_0cacc, hP_0cacc, hB_0cacc⟩
        · go_simp
          refine hK.out _ _ ⟨blk_old hP_0 _, hB_0.alloc (by have := hB_0.size; omega) _⟩ (fun hHeld => ?_)
          clear hK K
          try simp only [Act.put, List.getElem_toArray, List.getElem_cons_succ, List.getElem_cons_zero, List.setIfInBounds_toArray, List.set_cons_zero, List.set_cons_succ]
          obtain ⟨hP_0a, hB_0a⟩ := id hHeld
          have hA_0a : (w3.drew.alloc (.cells #[.int .i64 0, .int .i64 0, .int .i64 0] 24)).heap[w3.heap.size]? = some (.cells #[.int .i64 0, .int .i64 0, .int .i64 0] 24) := by have := blk_new (w3.drew) (.cells #[.int .i64 0, .int .i64 0, .int .i64 0] 24); simpa using this
          have zAP_0a : w1.heap.size < w3.heap.size := by have := blk_lt hP_0; simpa using this
          have zAB_0a : w1.heap.size ≤ w3.heap.size := by have := hB_0.size; simpa using this
          refine wpAnyH_ready (rs := [2]) (by kernel_rfl) (by simp) ?_
          refine AllReadyH.cons (o := _) rfl (fun K hK => ?_) (AllReadyH.nil)
          go_simp
          (go_at_call 10; refine (iWD_t _ _ _ _ h).mono ?_; rintro e x0ac ⟨rfl, hw_0ac⟩)
          refine hK.out _ _ ⟨blk_next hP_0a hw_0ac, bel_next hB_0a hw_0ac⟩ (fun hHeld => ?_)
          clear hK K
          try simp only [Act.put, List.getElem_toArray, List.getElem_cons_succ, List.getElem_cons_zero, List.setIfInBounds_toArray, List.set_cons_zero, List.set_cons_succ]
          obtain ⟨hP_0ac, hB_0ac⟩ := id hHeld
          have hA_0ac := blk_next hA_0a hw_0ac
          refine wpAnyH_take (i := 3) (oi := _) (v := ?_) rfl (by kernel_rfl) (by kernel_rfl) (by kernel_rfl) (fun _ _ _ h => h) (Or.inl ⟨by rfl, ?_⟩) (by assumption) ?_
          (rotate_left); (focus (intro wv hSw; (obtain ⟨qP, qB⟩ := hSw); obtain ⟨_, _, _, _, _, _, _⟩ := blk3 qP; go_simp; (try with_reducible rfl)))
          try simp only [Act.put, List.getElem_toArray, List.getElem_cons_succ, List.getElem_cons_zero, List.setIfInBounds_toArray, List.set_cons_zero, List.set_cons_succ]
          refine wpAnyH_ready (rs := [4]) (by kernel_rfl) (by simp) ?_
          refine AllReadyH.cons (o := _) rfl (fun K hK => ?_) (AllReadyH.nil)
          go_simp
          (go_at_call 9; refine (iDA_t _ _ _ _ _ h HR.out.1 HR.out.2).mono ?_; rintro e x0acc ⟨a, b, c, rfl, hv, hq, hw_0acc⟩)
          refine hK.out _ _ ⟨blk_next hP_0ac hw_0acc, bel_next hB_0ac hw_0acc⟩ (fun hHeld => ?_)
          clear hK K
          try simp only [Act.put, List.getElem_toArray, List.getElem_cons_succ, List.getElem_cons_zero, List.setIfInBounds_toArray, List.set_cons_zero, List.set_cons_succ]
          obtain ⟨hP_0acc, hB_0acc⟩ := id hHeld
          have hA_0acc := blk_next hA_0ac hw_0acc
          have hA3 : a = Y := by
            have hi := num_in hv
            have h1 := HQ.out
            have h2 := HN.out
            have tf : dby a ≤ num y m d - num y m d % 7 + 3 ∧ num y m d - num y m d % 7 + 3 < dby (a + 1) := by omega
            obtain ⟨t1, t2, _⟩ := thu_fst tf.1 tf.2
            exact fst_unique t1 t2 h1.1 h1.2
          subst hA3
          clear hq
          refine wpAnyH_take (i := 5) (oi := _) (v := ?_) rfl (by kernel_rfl) (by kernel_rfl) (by kernel_rfl) (fun _ _ _ h => h) (Or.inl ⟨by rfl, ?_⟩) (by assumption) ?_
          (rotate_left); (focus (intro wv hSw; (obtain ⟨qP, qB⟩ := hSw); obtain ⟨_, _, _, _, _, _, _⟩ := blk3 qP; go_simp; (try with_reducible rfl)))
          try simp only [Act.put, List.getElem_toArray, List.getElem_cons_succ, List.getElem_cons_zero, List.setIfInBounds_toArray, List.set_cons_zero, List.set_cons_succ]
          refine wpAnyH_take (i := 6) (oi := _) (v := ?_) rfl (by kernel_rfl) (by kernel_rfl) (by kernel_rfl) (fun _ _ _ h => h) (Or.inl ⟨by rfl, ?_⟩) (by assumption) ?_
          (rotate_left); (focus (intro wv hSw; (obtain ⟨qP, qB⟩ := hSw); obtain ⟨_, _, _, _, _, _, _⟩ := blk3 qP; go_simp; (try with_reducible rfl)))
          try simp only [Act.put, List.getElem_toArray, List.getElem_cons_succ, List.getElem_cons_zero, List.setIfInBounds_toArray, List.set_cons_zero, List.set_cons_succ]
          refine wpAnyH_take (i := 7) (oi := _) (v := ?_) rfl (by kernel_rfl) (by kernel_rfl) (by kernel_rfl) (fun _ _ _ h => h) (Or.inl ⟨by rfl, ?_⟩) (by assumption) ?_
          (rotate_left); (focus (intro wv hSw; (obtain ⟨qP, qB⟩ := hSw); obtain ⟨_, _, _, _, _, _, _⟩ := blk3 qP; go_simp; (try with_reducible rfl)))
          try simp only [Act.put, List.getElem_toArray, List.getElem_cons_succ, List.getElem_cons_zero, List.setIfInBounds_toArray, List.set_cons_zero, List.set_cons_succ]
          refine wpAnyH_ready (rs := [9]) (by kernel_rfl) (by simp) ?_
          refine AllReadyH.cons (o := _) rfl (fun K hK => ?_) (AllReadyH.nil)
          obtain ⟨sc0_0accc, sc1_0accc, sc2_0accc, sf0_0accc, sf1_0accc, sf2_0accc, sz_0accc⟩ := blk3 hA_0acc
          go_simp
          refine hK.out _ _ ⟨blk_store3 hP_0acc (Nat.ne_of_lt zAP_0a) _ _ _, store3_bel hB_0acc zAB_0a _ _ _⟩ (fun hHeld => ?_)
          clear hK K
          try simp only [Act.put, List.getElem_toArray, List.getElem_cons_succ, List.getElem_cons_zero, List.setIfInBounds_toArray, List.set_cons_zero, List.set_cons_succ]
          obtain ⟨hP_0accc, hB_0accc⟩ := id hHeld
          have hA_0accc := blk3_put (a := .int .i64 a) (b := .int .i64 b) (c := .int .i64 c) hA_0acc
          refine wpAnyH_take (i := 10) (oi := _) (v := ?_) rfl (by kernel_rfl) (by kernel_rfl) (by kernel_rfl) (fun _ _ _ h => h) (Or.inl ⟨by rfl, ?_⟩) (by assumption) ?_
          (rotate_left); (focus (intro wv hSw; (obtain ⟨qP, qB⟩ := hSw); obtain ⟨_, _, _, _, _, _, _⟩ := blk3 qP; go_simp; (try with_reducible rfl)))
          try simp only [Act.put, List.getElem_toArray, List.getElem_cons_succ, List.getElem_cons_zero, List.setIfInBounds_toArray, List.set_cons_zero, List.set_cons_succ]
          refine wpAnyH_done (by kernel_rfl) ?_ _
          go_wp2_with fail
          go_meet
          exact ⟨_, b, c, rfl, rfl, hA_0accc, hP_0accc, hB_0accc⟩
      case rest =>
        clear hP3 hB3 ew
        obtain ⟨C, b, c, rfl, rfl, hA4, hP4, hB4⟩ := hcut
        obtain ⟨cP4_0, cP4_1, cP4_2, fP4_0, fP4_1, fP4_2, zP4⟩ := blk3 hP4
        obtain ⟨cA4_0, cA4_1, cA4_2, fA4_0, fA4_1, fA4_2, zA4⟩ := blk3 hA4
        have hn := HN.out
        have f7 := fst_7 Y
        have f8 := fst_7 (Y + 1)
        have fm : fst Y < fst (Y + 1) := fst_mono (by omega)
        have fm2 : fst (Y + 1) < fst (Y + 2) := fst_mono (by omega)
        have f9 := fst_7 (Y + 2)
        have hwk : wkOk Y K (num y m d % 7 + 1) := by
          have h1 := HQ.out
          have h2 := HK.out
          unfold wkOk
          rw [weeks_in q3 q4]
          refine ⟨by omega, by omega, by omega, by omega⟩
        have hne : num y m d = fst Y + 7 * (K - 1) + (num y m d % 7 + 1) - 1 := by have h1 := HQ.out; have h2 := HK.out; omega
        have HWK := Lib.hid hwk
        have HNE := Lib.hid hne
        have HF := Lib.hid (And.intro f7 (And.intro f8 (And.intro fm (And.intro fm2 f9))))
        clear hwk hne f7 f8 fm fm2 f9
        by_cases hr7 : num y m d + 7 ≤ 1460969
        · have HR7 := Lib.hid hr7
          clear hr7
          go_wp2_with fail
          refine (iDA_t _ _ _ 7 _ h (by omega) HR7.out).mono ?_; rintro e w5 ⟨a5, b5, c5, rfl, v5, n5, hw5⟩
          have hP5 := blk_next hP4 hw5
          have hB5 := bel_next hB4 hw5
          have N5 := Lib.hid n5
          clear n5
          go_wp2_with fail
          refine (iWO_t _ _ _ _ v5).mono ?_; rintro e w6 ⟨Y6, rfl, r1, r2, r3, r4, hw6⟩
          have hE6 := (ownb hw6).2
          have hP6 := blk_next hP5 hE6
          have hB6 := bel_next hB5 hE6
          obtain ⟨cP6_0, cP6_1, cP6_2, fP6_0, fP6_1, fP6_2, zP6⟩ := blk3 hP6
          have hcase : (Y6 = Y ∧ (num a5 b5 c5 - fst Y6) / 7 + 1 = K + 1) ∨ (Y6 = Y + 1 ∧ (num a5 b5 c5 - fst Y6) / 7 + 1 = 1) := by
            have h1 := HQ.out
            have h2 := HK.out
            obtain ⟨f7, f8, fm, fm2, f9⟩ := HF.out
            rw [N5.out] at r1 r2
            by_cases hc : num y m d + 7 < fst (Y + 1)
            · have : Y6 = Y := fst_unique r1 r2 (by omega) hc
              subst this
              left; refine ⟨rfl, ?_⟩; rw [N5.out]; omega
            · have : Y6 = Y + 1 := fst_unique r1 r2 (by omega) (by rw [show Y + 1 + 1 = Y + 2 by omega]; omega)
              subst this
              right; refine ⟨rfl, ?_⟩; rw [N5.out]; omega
          clear r1 r2
          rcases hcase with ⟨rfl, hk6⟩ | ⟨rfl, hk6⟩
          all_goals
            rw [hk6]
            clear hk6
            go_wp2_with fail
            refine (iWD_t _ _ _ _ h).mono ?_; rintro e w21 ⟨rfl, hw21⟩
            have hP21 := blk_next hP6 hw21
            have hB21 := bel_next hB6 hw21
            go_wp2_with fail
            refine (iWDt_t _ _ _ _ HWK.out).mono ?_; rintro e w22 ⟨a3, b3, c3, rfl, v3, n3, hw22⟩
            have hP22 := blk_next hP21 hw22
            have hB22 := bel_next hB21 hw22
            obtain ⟨rfl, rfl, rfl⟩ := num_inj h v3 (by rw [n3]; exact HNE.out)
            clear n3 v3
            obtain ⟨u0, u1, u2, u3, u4, u5, u6⟩ := blk3 hP22
            go_wp2
            go_ret
            exact ⟨rfl, bel_next hB0 (hB22.alloc (by have := hB22.size; omega) _)⟩
        · have HR7 := Lib.hid hr7
          clear hr7
          go_wp2_with fail
          refine (iDA_f _ _ _ 7 _ (fun k => by have := HR7.out; have := k.2.2; omega)).mono ?_; rintro e w5 ⟨rfl, hw5⟩
          have hP5 := blk_next hP4 hw5
          have hB5 := bel_next hB4 hw5
          have hP5o := blk_old hP5 (.cells #[.int .i64 0, .int .i64 0, .int .i64 0] 24)
          obtain ⟨cP5_0, cP5_1, cP5_2, fP5_0, fP5_1, fP5_2, zP5⟩ := blk3 hP5o
          have hB5o := hB5.alloc hB5.size (.cells #[.int .i64 0, .int .i64 0, .int .i64 0] 24)
          go_wp2_with fail
          refine (iWD_t _ _ _ _ h).mono ?_; rintro e w21 ⟨rfl, hw21⟩
          have hP21 := blk_next hP5o hw21
          have hB21 := bel_next hB5o hw21
          go_wp2_with fail
          refine (iWDt_t _ _ _ _ HWK.out).mono ?_; rintro e w22 ⟨a3, b3, c3, rfl, v3, n3, hw22⟩
          have hP22 := blk_next hP21 hw22
          have hB22 := bel_next hB21 hw22
          obtain ⟨rfl, rfl, rfl⟩ := num_inj h v3 (by rw [n3]; exact HNE.out)
          clear n3 v3
          obtain ⟨u0, u1, u2, u3, u4, u5, u6⟩ := blk3 hP22
          go_wp2
          go_ret
          exact ⟨rfl, bel_next hB0 (hB22.alloc (by have := hB22.size; omega) _)⟩

set_option maxRecDepth 100000 in
theorem lifted (os : Os) (started : os.Started) (H : Type) (enc : TypeId × Value → H) :
    ReturnsInHanded {} Try.checked os 3 .any (Rows.fnWeekOfSpec.pre6 enc Try.prog Try.f3 Rows.fnWeekOfRow.domain false) (Rows.fnWeekOfSpec.post enc Try.prog Try.f3 false true false false) := by
  refine returnsInHanded_of_change (C := Try.checked) own started (by kernel_rfl) Try.func3
    (ChangeSpec.witness6 (enc := enc) (C := Try.checked) false ⟨#[], #[.slice none 0 0], []⟩ 8 (by kernel_rfl) (by kernel_rfl) (by kernel_rfl) (by kernel_rfl)) ?_
  intro W base args ds gs before hval0 hW hcnd _
  have hval : ∀ (j : Nat) t v, Try.f3.params[j]? = some t → args[j]? = some v → Value.okWide Try.prog W .any base t v := hval0
  have hW' := hW
  obtain ⟨p, q, hA0, hV, rfl, hfz, hnd⟩ := hW
  have hA : DataW.TrodAll enc Try.prog W 0 (fun _ => true) true Try.f3.params.toList args.toList ds p := hA0
  rw [Try.params3] at hA hval
  obtain ⟨v0, vs0, d0, ds0, p0, q0, hargs, rfl, rfl, h0, r0⟩ := trodAll_cons hA
  obtain ⟨rfl, rfl, rfl⟩ := trodAll_nil r0
  obtain rfl : args = #[v0] := by cases args; simp_all
  obtain ⟨rfl, rfl⟩ := trodVars_none hV
  have k0 := h0
  have lt0 : ∀ x ∈ p0, x.block < W.heap.size := by obtain ⟨m, hm⟩ := k0; exact DataW.trod_lt m _ _ _ hm
  obtain ⟨a0, len0, cap0, rfl⟩ := okWide_slice Try.underlying22 (hval 0 22 v0 rfl rfl)
  have w0 : CodeOk W a0 len0 cap0 := by
    obtain ⟨fuel, hf⟩ := h0
    rcases open_ints Try.underlying22 Try.underlying5 (by kernel_rfl) hf with ⟨hcs, _⟩ | ⟨x, l, c, zs, hcs, _, hl, hm, hz, _, hcell, hwz⟩
    · simp [Value.cells] at hcs
      obtain ⟨rfl, rfl, rfl⟩ := hcs
      exact code_nil W
    · simp [Value.cells] at hcs
      obtain ⟨rfl, rfl, rfl⟩ := hcs
      exact code_ok hl hm (by simp at hz; omega) hcell hwz
  clear hA0 hval0
  refine (walk W a0 len0 cap0 w0).mono fun e W' ⟨he, bel⟩ => ?_
  subst he
  exact ⟨_, rfl, _, _, _, [], _, [], hW', trodAll_mk1 (shut_bool Try.underlying4 _), (trodAll_cons_mk (Below.trod laidOut (by kernel_rfl) (of_decide_eq_true (by kernel_rfl)) k0 bel lt0) trodAll_mk0), rfl, bel.frame _, fun h => by cases h⟩

theorem over : Rows.fnWeekOfRow.holds Try.pinned (OpenSpec.ofChange Rows.fnWeekOfSpec) :=
  OpenClaim.holds_of_wide 3 Try.f3 rfl rfl rfl rfl rfl rfl rfl ⟨rfl, rfl, rfl, rfl, rfl⟩ rfl rfl rfl rfl rfl (by kernel_rfl) Try.func3 (by kernel_rfl)
    (of_decide_eq_true (by kernel_rfl)) (by unfold Func.isWrapper; first | (rw [if_pos (by decide +kernel)]; kernel_rfl) | (rw [if_neg (by decide +kernel)]; exact ⟨rfl, rfl⟩))
    (fun os started H enc _ => lifted os started H enc)

/-- The statement. -/
theorem proved : Rows.FnWeekOfSaid :=
  over
#print axioms proved
end Go.Proofs.Ytkeghnbckndgfaa.fnWeekOf
