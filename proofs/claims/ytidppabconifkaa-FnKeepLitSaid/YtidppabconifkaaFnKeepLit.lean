/- FnKeepLit: whatever the input, the law returns true, and its arguments read as they did. No conditions beyond those of the statement's row. -/
import Derived.Test.YtidppabconifkaaYe
import Derived.Test.YtidppabconifkaaY0
import Derived.Test.YtidppabconifkaaLp
namespace Go.Proofs.Ytidppabconifkaa.fnKeepLit
open Go.Proofs.Ytidppabconifkaa
open Go.ChangeShapes Go.WideShapes Go.ChangeAt Go.RowKit Go.Joins
set_option linter.unusedVariables false
set_option linter.unusedSimpArgs false
set_option linter.unnecessarySimpa false

theorem own : ownKnob Try.prog.godebug = none := by kernel_rfl
theorem laidOut : laidOutB Try.prog = true := by kernel_rfl

set_option maxRecDepth 100000 in
set_option maxHeartbeats 4000000 in
theorem walk (w : World) (a0 : Option Addr) (len0 cap0 : Nat) (w0 : CodeOk w a0 len0 cap0) :
    Calls Try.prog 11 #[.slice a0 len0 cap0] w fun e w' => e = .returned (.bool true) ∧ Below w.heap.size w w' := by
  by_cases hl : 1048576 < len0
  · have w0' := w0.2.1
    unfold maxLen at w0'
    clear w0
    go_enter Try.func11, Try.ntmps11
    go_wp2
    go_ret
    exact ⟨rfl, Below.refl _ _⟩
  · have w0' := w0.2.1
    unfold maxLen at w0'
    have hle := w0.1
    have HW := Lib.hid w0
    clear w0
    go_enter Try.func11, Try.ntmps11
    go_wp2_with fail
    refine (drKeepLit_any _ _ _ _ HW.out).mono ?_; rintro e w1 ⟨d, xs, A, cp, c, e, f, rfl, ⟨d0, d1⟩, hx6, hO0, ⟨c0_, c1_⟩, ⟨e0_, e1_⟩, ⟨f0_, f1_⟩, hB0⟩
    obtain ⟨m, hm⟩ : ∃ m, xs.length = m := ⟨_, rfl⟩
    rw [hm] at hx6 ⊢
    have HM := Lib.hid hm
    clear hm
    cases hv9 : okB d xs e f && ceB xs c
    · have HR : Hid (kpI d xs c e f = -1) := Lib.hid (kp_no hv9)
      clear hv9
      have hP1 : (w1.alloc (.cells #[.int .i64 d, .slice A m cp] 25)).heap[w1.heap.size]? = some (.cells #[.int .i64 d, .slice A m cp] 25) := by have := blk_new (w1) (.cells #[.int .i64 d, .slice A m cp] 25); simpa using this
      have hB1 := hB0.alloc hB0.size (.cells #[.int .i64 d, .slice A m cp] 25)
      have hO1 := hO0.next (bel1 _ (.cells #[.int .i64 d, .slice A m cp] 25))
      have zBP := hB0.size
      obtain ⟨cP1_0, cP1_1, fP1_0, fP1_1, zP1⟩ := blk2 hP1
      go_wp2_with fail
      refine (iKl_is d A cp xs c e f _ HM.out hO1.row (by omega) HR.out).mono ?_; rintro e' w2 ⟨rfl, hw2⟩
      have hP2 := blk_next hP1 hw2
      have hO2 := hO1.next hw2
      have hB2 := bel_next hB1 hw2
      obtain ⟨cP2_0, cP2_1, fP2_0, fP2_1, zP2⟩ := blk2 hP2
      go_wp2_with fail
      refine (sKl_is d A cp xs c e f _ HM.out hO2.row (by omega) HR.out).mono ?_; rintro e' w3 ⟨rfl, hw3⟩
      have hP3 := blk_next hP2 hw3
      have hO3 := hO2.next hw3
      have hB3 := bel_next hB2 hw3
      obtain ⟨cP3_0, cP3_1, fP3_0, fP3_1, zP3⟩ := blk2 hP3
      go_wp2_with fail
      refine (alive_any _).mono ?_; rintro e' w' ⟨rfl, rfl⟩
      go_wp2
      go_ret
      exact ⟨rfl, hB3⟩
    · obtain ⟨hv, hce⟩ := Bool.and_eq_true_iff.1 hv9
      obtain ⟨hcv, ⟨e0, e1⟩, f0, f1⟩ := okB_iff.1 hv
      have hcr := ce_rng hce
      obtain ⟨k, rfl⟩ : ∃ k : Nat, c = (k : Int) := ⟨c.toNat, by omega⟩
      have hkx : k < xs.length := by omega
      have hown := kp_own hv hce
      have hkr := kp_rng (e := e) (c := (k : Int)) hcv f0 (faN d (k : Int) (opI e))
      obtain ⟨M, hM⟩ : ∃ M, kpG d xs e f (k : Int) (faN d (k : Int) (opI e)) = M := ⟨_, rfl⟩
      have HR : Hid (kpI d xs (k : Int) e f = M) := Lib.hid (by rw [kp_yes hv hce, hM])
      rw [hM] at hown hkr
      rw [tlI_at hkx] at hown
      obtain ⟨t, htt⟩ : ∃ t, xs[k]'hkx = t := ⟨_, rfl⟩
      rw [htt] at hown
      have htr : 0 ≤ t ∧ t ≤ 20 := by rw [← htt]; exact (cvB_iff.1 hcv).2.2 _ (List.getElem_mem hkx)
      obtain ⟨t0, t1⟩ := htr
      obtain ⟨M0, M1⟩ := hkr
      obtain ⟨lit, hli⟩ : ∃ l, liL d xs e f = l := ⟨_, rfl⟩
      obtain ⟨q, hq⟩ : ∃ q, lit.length = q := ⟨_, rfl⟩
      have hq36 : q ≤ 36 := by have h8 := liL_len d xs e f; rw [hli, hq] at h8; have := (cv_len hcv).2; omega
      have HMEM : Hid (∀ (i : Nat) (hi : i < lit.length), 0 ≤ lit[i] ∧ lit[i] < (m : Int)) := Lib.hid (fun i hi => li_mem9 hv HM.out hli hi)
      have HL := Lib.hid hli
      have HQ := Lib.hid hq
      have HT := Lib.hid htt
      have HKX := Lib.hid hkx
      have HOK := Lib.hid hv
      have HCE := Lib.hid hce
      have HKM := Lib.hid hM
      have hki : (k : Int) < (m : Int) := by have := HM.out; omega
      have hMn : ¬ M < 0 := by omega
      clear hv9 hv hce hcv hcr hM htt hli hq
      have hP1 : (w1.alloc (.cells #[.int .i64 d, .slice A m cp] 25)).heap[w1.heap.size]? = some (.cells #[.int .i64 d, .slice A m cp] 25) := by have := blk_new (w1) (.cells #[.int .i64 d, .slice A m cp] 25); simpa using this
      have hB1 := hB0.alloc hB0.size (.cells #[.int .i64 d, .slice A m cp] 25)
      have hO1 := hO0.next (bel1 _ (.cells #[.int .i64 d, .slice A m cp] 25))
      have zBP := hB0.size
      obtain ⟨cP1_0, cP1_1, fP1_0, fP1_1, zP1⟩ := blk2 hP1
      go_wp2_with fail
      refine (iKl_is d A cp xs k e f _ HM.out hO1.row (by omega) HR.out).mono ?_; rintro e' w2 ⟨rfl, hw2⟩
      have hP2 := blk_next hP1 hw2
      have hO2 := hO1.next hw2
      have hB2 := bel_next hB1 hw2
      obtain ⟨cP2_0, cP2_1, fP2_0, fP2_1, zP2⟩ := blk2 hP2
      go_wp2_with fail
      refine (sKl_is d A cp xs k e f _ HM.out hO2.row (by omega) HR.out).mono ?_; rintro e' w3 ⟨rfl, hw3⟩
      have hP3 := blk_next hP2 hw3
      have hO3 := hO2.next hw3
      have hB3 := bel_next hB2 hw3
      obtain ⟨cP3_0, cP3_1, fP3_0, fP3_1, zP3⟩ := blk2 hP3
      go_wp2_with fail
      refine (iLc_len d A cp xs e f _ HM.out hO3.row (by omega) HL.out HQ.out).mono ?_; rintro e' w4 ⟨V, cv, rfl, hV4, hw4⟩
      have hP4 := blk_next hP3 hw4
      have hO4 := hO3.next hw4
      have hB4 := bel_next hB3 hw4
      have hV4 := hV4.mono (base' := w.heap.size) hB3.size
      obtain ⟨cP4_0, cP4_1, fP4_0, fP4_1, zP4⟩ := blk2 hP4
      obtain ⟨b1, off1, rfl, _, cA⟩ := rowNum hO4.row HKX.out
      rw [HT.out] at cA
      go_wp2_with fail
      go_loopw [9] (fun nv wr => ∃ y : Int, nv = .int .i64 y ∧ t ≤ y ∧ y ≤ 21 ∧ wr.heap[w1.heap.size]? = some (.cells #[.int .i64 d, .slice (some ⟨b1, off1, none⟩) m cp] 25) ∧ SOwn encNum wr w.heap.size 3 (some ⟨b1, off1, none⟩) cp xs ∧ SOwn encNum wr w.heap.size 3 V cv lit ∧ Below w.heap.size w wr) (fun nv _ => (21 - intOf nv).toNat)
      case atStart => exact ⟨t, rfl, by omega, by omega, hP4, hO4, hV4, hB4⟩
      case round =>
        clear hP4 hO4 hV4 hB4 cA
        obtain ⟨y, rfl, y0, y1, hP, hO, hV, hB⟩ := hrel
        obtain ⟨p0_, p1_, _, _, _⟩ := blk2 hP
        by_cases hlt : y ≤ 20
        · have HSB : Hid (csB d xs (k : Int) y = true) := Lib.hid (by unfold csB; rw [HCE.out, (okB_iff.1 HOK.out).1, tlB_iff.2 ⟨by omega, hlt⟩]; rfl)
          have HSD : Hid (csD d xs (k : Int) y = d) := Lib.hid (csD_yes HSB.out)
          obtain ⟨l2, hl2⟩ : ∃ l2, xs.set (k : Int).toNat y = l2 := ⟨_, rfl⟩
          have HSL : Hid (csL d xs (k : Int) y = l2) := Lib.hid ((csL_yes HSB.out).trans hl2)
          have HSQ : Hid (l2.length = m) := Lib.hid (by rw [← hl2, List.length_set, HM.out])
          have HS2 := Lib.hid hl2
          have HOK2 : Hid (okB d l2 e f = true) := Lib.hid (by have h9 := okB_iff.1 HOK.out; rw [← hl2]; exact okB_iff.2 ⟨cv_set h9.1 (tlB_iff.2 ⟨by omega, hlt⟩), h9.2⟩)
          have HGK : Hid (gdB d xs e f (k : Int) y lit = decide (y ≤ M)) := Lib.hid (by rw [← HL.out]; exact (gd_kp HOK.out HCE.out (by omega) hlt).trans (by rw [HKM.out]))
          clear hl2
          go_wp2_with fail
          refine (iCset_len d _ cp xs k y _ HM.out hO.row (by omega) HSB.out HSD.out HSL.out HSQ.out).mono ?_; rintro E w6 ⟨U, cu, rfl, hU6, hw6⟩
          have hU6 := hU6.mono (base' := w.heap.size) hB.size
          have hP6 := blk_next hP hw6
          have hO6 := hO.next hw6
          have hV6 := hV.next hw6
          have hB6 := bel_next hB hw6
          have hX7 := blk_new w6 (.cells #[.int .i64 d, .slice U m cu] 25)
          have hP7 := blk_old hP6 (.cells #[.int .i64 d, .slice U m cu] 25)
          have hO7 := hO6.next (bel1 w6 (.cells #[.int .i64 d, .slice U m cu] 25))
          have hV7 := hV6.next (bel1 w6 (.cells #[.int .i64 d, .slice U m cu] 25))
          have hU7 := hU6.next (bel1 w6 (.cells #[.int .i64 d, .slice U m cu] 25))
          have hB7 := bel_next hB6 (bel1 w6 (.cells #[.int .i64 d, .slice U m cu] 25))
          clear hP hV hO hB hP6 hV6 hO6 hU6 hB6 p0_ p1_
          go_wp2_with fail
          go_loopw [12, 13] (fun gv kv wr => ∃ j : Nat, kv = .int .i64 j ∧ j ≤ q ∧ gv = .bool (gdB d xs e f (k : Int) y (lit.take j)) ∧ wr.heap[w1.heap.size]? = some (.cells #[.int .i64 d, .slice (some ⟨b1, off1, none⟩) m cp] 25) ∧ SOwn encNum wr w.heap.size 3 (some ⟨b1, off1, none⟩) cp xs ∧ SOwn encNum wr w.heap.size 3 V cv lit ∧ wr.heap[w6.heap.size]? = some (.cells #[.int .i64 d, .slice U m cu] 25) ∧ SOwn encNum wr w.heap.size 3 U cu l2 ∧ Below w.heap.size w wr) (fun _ kv _ => (q - intOf kv).toNat)
          case atStart => exact ⟨0, rfl, by omega, rfl, hP7, hO7, hV7, hX7, hU7, hB7⟩
          case round =>
            clear hP7 hO7 hV7 hB7 hX7 hU7
            obtain ⟨j, rfl, j1, rfl, hP, hO, hV, hX, hU, hB⟩ := hrel
            by_cases hlt2 : j < q
            · have hji : (j : Int) < (q : Int) := by omega
              have hjl : j < lit.length := by rw [HQ.out]; exact hlt2
              obtain ⟨b2, off2, rfl, _, cV⟩ := rowNum hV.row hjl
              have hgn := gd_next (d := d) (xs := xs) (e := e) (f := f) (c := (k : Int)) (t := y) hjl
              rw [HS2.out] at hgn
              have hvm := HMEM.out j hjl
              generalize lit[j] = v at cV hgn hvm
              generalize gdB d xs e f (k : Int) y (lit.take j) = gb at hgn ⊢
              generalize hg2 : gdB d xs e f (k : Int) y (lit.take (j + 1)) = gb2 at hgn
              have HG2 := Lib.hid hg2
              clear hg2
              cases gb
              · have hgn2 : gb2 = false := by rw [hgn]; rfl
                subst hgn2
                clear hgn
                go_wp2_with fail
                refine wp_region_held_drew (S := (fun w' => w'.heap[w1.heap.size]? = some (.cells #[.int .i64 d, .slice (some ⟨b1, off1, none⟩) m cp] 25) ∧ w'.heap[w6.heap.size]? = some (.cells #[.int .i64 d, .slice U m cu] 25) ∧ SOwn encNum w' w.heap.size 3 (some ⟨b1, off1, none⟩) cp xs ∧ SOwn encNum w' w.heap.size 3 (some ⟨b2, off2, none⟩) cv lit ∧ SOwn encNum w' w.heap.size 3 U cu l2 ∧ w'.cell? ⟨b2, off2 + j, none⟩ = some (.int .i64 v) ∧ Below w.heap.size w w')) (by kernel_rfl) ⟨hP, hX, hO.drew, hV.drew, hU.drew, cV, hB.drew⟩ (fun hHeld => ?_)
                obtain ⟨hP_0, hX_0, hO_0, hV_0, hU_0, hC_0, hB_0⟩ := id hHeld
                refine wpAnyH_take (i := 0) (oi := _) (v := ?_) rfl (by kernel_rfl) (by kernel_rfl) (by kernel_rfl) (fun _ _ _ h => h) (Or.inl ⟨by rfl, ?_⟩) (by assumption) ?_
                (rotate_left); (focus (intro wv hSw; (obtain ⟨qP, qX, qO, qV, qU, qC, qB⟩ := hSw); obtain ⟨u0_, u1_, _, _, _⟩ := blk2 qX; go_simp; (try with_reducible rfl)))
                try simp only [Act.put, List.getElem_toArray, List.getElem_cons_succ, List.getElem_cons_zero, List.setIfInBounds_toArray, List.set_cons_zero, List.set_cons_succ]
                refine wpAnyH_take (i := 1) (oi := _) (v := ?_) rfl (by kernel_rfl) (by kernel_rfl) (by kernel_rfl) (fun _ _ _ h => h) (Or.inl ⟨by rfl, ?_⟩) (by assumption) ?_
                (rotate_left); (focus (intro wv hSw; (obtain ⟨qP, qX, qO, qV, qU, qC, qB⟩ := hSw); obtain ⟨u0_, u1_, _, _, _⟩ := blk2 qX; go_simp; (try with_reducible rfl)))
                try simp only [Act.put, List.getElem_toArray, List.getElem_cons_succ, List.getElem_cons_zero, List.setIfInBounds_toArray, List.set_cons_zero, List.set_cons_succ]
                refine wpAnyH_take (i := 2) (oi := _) (v := undef) rfl (by kernel_rfl) (by kernel_rfl) (by kernel_rfl) (fun _ _ _ h => h) (Or.inr ⟨by kernel_rfl, rfl⟩) (by assumption) ?_
                try simp only [Act.put, List.getElem_toArray, List.getElem_cons_succ, List.getElem_cons_zero, List.setIfInBounds_toArray, List.set_cons_zero, List.set_cons_succ]
                refine wpAnyH_take (i := 3) (oi := _) (v := undef) rfl (by kernel_rfl) (by kernel_rfl) (by kernel_rfl) (fun _ _ _ h => h) (Or.inr ⟨by kernel_rfl, rfl⟩) (by assumption) ?_
                try simp only [Act.put, List.getElem_toArray, List.getElem_cons_succ, List.getElem_cons_zero, List.setIfInBounds_toArray, List.set_cons_zero, List.set_cons_succ]
                refine wpAnyH_take (i := 4) (oi := _) (v := undef) rfl (by kernel_rfl) (by kernel_rfl) (by kernel_rfl) (fun _ _ _ h => h) (Or.inr ⟨by kernel_rfl, rfl⟩) (by assumption) ?_
                try simp only [Act.put, List.getElem_toArray, List.getElem_cons_succ, List.getElem_cons_zero, List.setIfInBounds_toArray, List.set_cons_zero, List.set_cons_succ]
                refine wpAnyH_take (i := 5) (oi := _) (v := undef) rfl (by kernel_rfl) (by kernel_rfl) (by kernel_rfl) (fun _ _ _ h => h) (Or.inr ⟨by kernel_rfl, rfl⟩) (by assumption) ?_
                try simp only [Act.put, List.getElem_toArray, List.getElem_cons_succ, List.getElem_cons_zero, List.setIfInBounds_toArray, List.set_cons_zero, List.set_cons_succ]
                refine wpAnyH_take (i := 6) (oi := _) (v := undef) rfl (by kernel_rfl) (by kernel_rfl) (by kernel_rfl) (fun _ _ _ h => h) (Or.inr ⟨by kernel_rfl, rfl⟩) (by assumption) ?_
                try simp only [Act.put, List.getElem_toArray, List.getElem_cons_succ, List.getElem_cons_zero, List.setIfInBounds_toArray, List.set_cons_zero, List.set_cons_succ]
                refine wpAnyH_take (i := 7) (oi := _) (v := undef) rfl (by kernel_rfl) (by kernel_rfl) (by kernel_rfl) (fun _ _ _ h => h) (Or.inr ⟨by kernel_rfl, rfl⟩) (by assumption) ?_
                try simp only [Act.put, List.getElem_toArray, List.getElem_cons_succ, List.getElem_cons_zero, List.setIfInBounds_toArray, List.set_cons_zero, List.set_cons_succ]
                refine wpAnyH_take (i := 8) (oi := _) (v := undef) rfl (by kernel_rfl) (by kernel_rfl) (by kernel_rfl) (fun _ _ _ h => h) (Or.inr ⟨by kernel_rfl, rfl⟩) (by assumption) ?_
                try simp only [Act.put, List.getElem_toArray, List.getElem_cons_succ, List.getElem_cons_zero, List.setIfInBounds_toArray, List.set_cons_zero, List.set_cons_succ]
                refine wpAnyH_take (i := 9) (oi := _) (v := undef) rfl (by kernel_rfl) (by kernel_rfl) (by kernel_rfl) (fun _ _ _ h => h) (Or.inr ⟨by kernel_rfl, rfl⟩) (by assumption) ?_
                try simp only [Act.put, List.getElem_toArray, List.getElem_cons_succ, List.getElem_cons_zero, List.setIfInBounds_toArray, List.set_cons_zero, List.set_cons_succ]
                refine wpAnyH_take (i := 10) (oi := _) (v := undef) rfl (by kernel_rfl) (by kernel_rfl) (by kernel_rfl) (fun _ _ _ h => h) (Or.inr ⟨by kernel_rfl, rfl⟩) (by assumption) ?_
                try simp only [Act.put, List.getElem_toArray, List.getElem_cons_succ, List.getElem_cons_zero, List.setIfInBounds_toArray, List.set_cons_zero, List.set_cons_succ]
                refine wpAnyH_take (i := 11) (oi := _) (v := undef) rfl (by kernel_rfl) (by kernel_rfl) (by kernel_rfl) (fun _ _ _ h => h) (Or.inr ⟨by kernel_rfl, rfl⟩) (by assumption) ?_
                try simp only [Act.put, List.getElem_toArray, List.getElem_cons_succ, List.getElem_cons_zero, List.setIfInBounds_toArray, List.set_cons_zero, List.set_cons_succ]
                refine wpAnyH_take (i := 12) (oi := _) (v := undef) rfl (by kernel_rfl) (by kernel_rfl) (by kernel_rfl) (fun _ _ _ h => h) (Or.inr ⟨by kernel_rfl, rfl⟩) (by assumption) ?_
                try simp only [Act.put, List.getElem_toArray, List.getElem_cons_succ, List.getElem_cons_zero, List.setIfInBounds_toArray, List.set_cons_zero, List.set_cons_succ]
                refine wpAnyH_take (i := 13) (oi := _) (v := undef) rfl (by kernel_rfl) (by kernel_rfl) (by kernel_rfl) (fun _ _ _ h => h) (Or.inr ⟨by kernel_rfl, rfl⟩) (by assumption) ?_
                try simp only [Act.put, List.getElem_toArray, List.getElem_cons_succ, List.getElem_cons_zero, List.setIfInBounds_toArray, List.set_cons_zero, List.set_cons_succ]
                refine wpAnyH_take (i := 14) (oi := _) (v := undef) rfl (by kernel_rfl) (by kernel_rfl) (by kernel_rfl) (fun _ _ _ h => h) (Or.inr ⟨by kernel_rfl, rfl⟩) (by assumption) ?_
                try simp only [Act.put, List.getElem_toArray, List.getElem_cons_succ, List.getElem_cons_zero, List.setIfInBounds_toArray, List.set_cons_zero, List.set_cons_succ]
                refine wpAnyH_take (i := 15) (oi := _) (v := undef) rfl (by kernel_rfl) (by kernel_rfl) (by kernel_rfl) (fun _ _ _ h => h) (Or.inr ⟨by kernel_rfl, rfl⟩) (by assumption) ?_
                try simp only [Act.put, List.getElem_toArray, List.getElem_cons_succ, List.getElem_cons_zero, List.setIfInBounds_toArray, List.set_cons_zero, List.set_cons_succ]
                refine wpAnyH_take (i := 16) (oi := _) (v := undef) rfl (by kernel_rfl) (by kernel_rfl) (by kernel_rfl) (fun _ _ _ h => h) (Or.inr ⟨by kernel_rfl, rfl⟩) (by assumption) ?_
                try simp only [Act.put, List.getElem_toArray, List.getElem_cons_succ, List.getElem_cons_zero, List.setIfInBounds_toArray, List.set_cons_zero, List.set_cons_succ]
                refine wpAnyH_take (i := 17) (oi := _) (v := undef) rfl (by kernel_rfl) (by kernel_rfl) (by kernel_rfl) (fun _ _ _ h => h) (Or.inr ⟨by kernel_rfl, rfl⟩) (by assumption) ?_
                try simp only [Act.put, List.getElem_toArray, List.getElem_cons_succ, List.getElem_cons_zero, List.setIfInBounds_toArray, List.set_cons_zero, List.set_cons_succ]
                refine wpAnyH_take (i := 18) (oi := _) (v := undef) rfl (by kernel_rfl) (by kernel_rfl) (by kernel_rfl) (fun _ _ _ h => h) (Or.inr ⟨by kernel_rfl, rfl⟩) (by assumption) ?_
                try simp only [Act.put, List.getElem_toArray, List.getElem_cons_succ, List.getElem_cons_zero, List.setIfInBounds_toArray, List.set_cons_zero, List.set_cons_succ]
                refine wpAnyH_take (i := 19) (oi := _) (v := ?_) rfl (by kernel_rfl) (by kernel_rfl) (by kernel_rfl) (fun _ _ _ h => h) (Or.inl ⟨by rfl, ?_⟩) (by assumption) ?_
                (rotate_left); (focus (intro wv hSw; (obtain ⟨qP, qX, qO, qV, qU, qC, qB⟩ := hSw); obtain ⟨u0_, u1_, _, _, _⟩ := blk2 qX; go_simp; (try with_reducible rfl)))
                try simp only [Act.put, List.getElem_toArray, List.getElem_cons_succ, List.getElem_cons_zero, List.setIfInBounds_toArray, List.set_cons_zero, List.set_cons_succ]
                refine wpAnyH_take (i := 20) (oi := _) (v := ?_) rfl (by kernel_rfl) (by kernel_rfl) (by kernel_rfl) (fun _ _ _ h => h) (Or.inl ⟨by rfl, ?_⟩) (by assumption) ?_
                (rotate_left); (focus (intro wv hSw; (obtain ⟨qP, qX, qO, qV, qU, qC, qB⟩ := hSw); obtain ⟨u0_, u1_, _, _, _⟩ := blk2 qX; go_simp; (try with_reducible rfl)))
                try simp only [Act.put, List.getElem_toArray, List.getElem_cons_succ, List.getElem_cons_zero, List.setIfInBounds_toArray, List.set_cons_zero, List.set_cons_succ]
                refine wpAnyH_done (by kernel_rfl) ?_ _
                go_wp2_with fail
                go_roundw
                case rel => exact ⟨j + 1, by go_num, by omega, by rw [HG2.out], hP_0, hO_0, hV_0, hX_0, hU_0, hB_0⟩
                case measure => simp [intOf]; omega
              · by_cases hvc : v = (k : Int)
                · have hgn2 : gb2 = true := by rw [hgn, beq_iff_eq.2 hvc]; rfl
                  have hvb : (v == (k : Int)) = true := beq_iff_eq.2 hvc
                  subst hgn2
                  clear hgn hvc
                  go_wp2_with fail
                  refine wp_region_held_drew (S := (fun w' => w'.heap[w1.heap.size]? = some (.cells #[.int .i64 d, .slice (some ⟨b1, off1, none⟩) m cp] 25) ∧ w'.heap[w6.heap.size]? = some (.cells #[.int .i64 d, .slice U m cu] 25) ∧ SOwn encNum w' w.heap.size 3 (some ⟨b1, off1, none⟩) cp xs ∧ SOwn encNum w' w.heap.size 3 (some ⟨b2, off2, none⟩) cv lit ∧ SOwn encNum w' w.heap.size 3 U cu l2 ∧ w'.cell? ⟨b2, off2 + j, none⟩ = some (.int .i64 v) ∧ Below w.heap.size w w')) (by kernel_rfl) ⟨hP, hX, hO.drew, hV.drew, hU.drew, cV, hB.drew⟩ (fun hHeld => ?_)
                  obtain ⟨hP_0, hX_0, hO_0, hV_0, hU_0, hC_0, hB_0⟩ := id hHeld
                  refine wpAnyH_take (i := 0) (oi := _) (v := ?_) rfl (by kernel_rfl) (by kernel_rfl) (by kernel_rfl) (fun _ _ _ h => h) (Or.inl ⟨by rfl, ?_⟩) (by assumption) ?_
                  (rotate_left); (focus (intro wv hSw; (obtain ⟨qP, qX, qO, qV, qU, qC, qB⟩ := hSw); obtain ⟨u0_, u1_, _, _, _⟩ := blk2 qX; go_simp; (try with_reducible rfl)))
                  try simp only [Act.put, List.getElem_toArray, List.getElem_cons_succ, List.getElem_cons_zero, List.setIfInBounds_toArray, List.set_cons_zero, List.set_cons_succ]
                  refine wpAnyH_take (i := 1) (oi := _) (v := ?_) rfl (by kernel_rfl) (by kernel_rfl) (by kernel_rfl) (fun _ _ _ h => h) (Or.inl ⟨by rfl, ?_⟩) (by assumption) ?_
                  (rotate_left); (focus (intro wv hSw; (obtain ⟨qP, qX, qO, qV, qU, qC, qB⟩ := hSw); obtain ⟨u0_, u1_, _, _, _⟩ := blk2 qX; go_simp; (try with_reducible rfl)))
                  try simp only [Act.put, List.getElem_toArray, List.getElem_cons_succ, List.getElem_cons_zero, List.setIfInBounds_toArray, List.set_cons_zero, List.set_cons_succ]
                  refine wpAnyH_take (i := 2) (oi := _) (v := ?_) rfl (by kernel_rfl) (by kernel_rfl) (by kernel_rfl) (fun _ _ _ h => h) (Or.inl ⟨by rfl, ?_⟩) (by assumption) ?_
                  (rotate_left); (focus (intro wv hSw; (obtain ⟨qP, qX, qO, qV, qU, qC, qB⟩ := hSw); obtain ⟨u0_, u1_, _, _, _⟩ := blk2 qX; go_simp; (try with_reducible rfl)))
                  try simp only [Act.put, List.getElem_toArray, List.getElem_cons_succ, List.getElem_cons_zero, List.setIfInBounds_toArray, List.set_cons_zero, List.set_cons_succ]
                  refine wpAnyH_take (i := 3) (oi := _) (v := ?_) rfl (by kernel_rfl) (by kernel_rfl) (by kernel_rfl) (fun _ _ _ h => h) (Or.inl ⟨by rfl, ?_⟩) (by assumption) ?_
                  (rotate_left); (focus (intro wv hSw; (obtain ⟨qP, qX, qO, qV, qU, qC, qB⟩ := hSw); obtain ⟨u0_, u1_, _, _, _⟩ := blk2 qX; go_simp; (try with_reducible rfl)))
                  try simp only [Act.put, List.getElem_toArray, List.getElem_cons_succ, List.getElem_cons_zero, List.setIfInBounds_toArray, List.set_cons_zero, List.set_cons_succ]
                  refine wpAnyH_take (i := 4) (oi := _) (v := ?_) rfl (by kernel_rfl) (by kernel_rfl) (by kernel_rfl) (fun _ _ _ h => h) (Or.inl ⟨by rfl, ?_⟩) (by assumption) ?_
                  (rotate_left); (focus (intro wv hSw; (obtain ⟨qP, qX, qO, qV, qU, qC, qB⟩ := hSw); obtain ⟨u0_, u1_, _, _, _⟩ := blk2 qX; go_simp; (try with_reducible rfl)))
                  try simp only [Act.put, List.getElem_toArray, List.getElem_cons_succ, List.getElem_cons_zero, List.setIfInBounds_toArray, List.set_cons_zero, List.set_cons_succ]
                  refine wpAnyH_take (i := 5) (oi := _) (v := ?_) rfl (by kernel_rfl) (by kernel_rfl) (by kernel_rfl) (fun _ _ _ h => h) (Or.inl ⟨by rfl, ?_⟩) (by assumption) ?_
                  (rotate_left); (focus (intro wv hSw; (obtain ⟨qP, qX, qO, qV, qU, qC, qB⟩ := hSw); obtain ⟨u0_, u1_, _, _, _⟩ := blk2 qX; go_simp; (try with_reducible rfl)))
                  try simp only [Act.put, List.getElem_toArray, List.getElem_cons_succ, List.getElem_cons_zero, List.setIfInBounds_toArray, List.set_cons_zero, List.set_cons_succ]
                  refine wpAnyH_take (i := 6) (oi := _) (v := ?_) rfl (by kernel_rfl) (by kernel_rfl) (by kernel_rfl) (fun _ _ _ h => h) (Or.inl ⟨by rfl, ?_⟩) (by assumption) ?_
                  (rotate_left); (focus (intro wv hSw; (obtain ⟨qP, qX, qO, qV, qU, qC, qB⟩ := hSw); obtain ⟨u0_, u1_, _, _, _⟩ := blk2 qX; go_simp; (try with_reducible rfl)))
                  try simp only [Act.put, List.getElem_toArray, List.getElem_cons_succ, List.getElem_cons_zero, List.setIfInBounds_toArray, List.set_cons_zero, List.set_cons_succ]
                  refine wpAnyH_take (i := 7) (oi := _) (v := ?_) rfl (by kernel_rfl) (by kernel_rfl) (by kernel_rfl) (fun _ _ _ h => h) (Or.inl ⟨by rfl, ?_⟩) (by assumption) ?_
                  (rotate_left); (focus (intro wv hSw; (obtain ⟨qP, qX, qO, qV, qU, qC, qB⟩ := hSw); obtain ⟨u0_, u1_, _, _, _⟩ := blk2 qX; go_simp; (try with_reducible rfl)))
                  try simp only [Act.put, List.getElem_toArray, List.getElem_cons_succ, List.getElem_cons_zero, List.setIfInBounds_toArray, List.set_cons_zero, List.set_cons_succ]
                  refine wpAnyH_take (i := 8) (oi := _) (v := ?_) rfl (by kernel_rfl) (by kernel_rfl) (by kernel_rfl) (fun _ _ _ h => h) (Or.inl ⟨by rfl, ?_⟩) (by assumption) ?_
                  (rotate_left); (focus (intro wv hSw; (obtain ⟨qP, qX, qO, qV, qU, qC, qB⟩ := hSw); obtain ⟨u0_, u1_, _, _, _⟩ := blk2 qX; go_simp; (try with_reducible rfl)))
                  try simp only [Act.put, List.getElem_toArray, List.getElem_cons_succ, List.getElem_cons_zero, List.setIfInBounds_toArray, List.set_cons_zero, List.set_cons_succ]
                  refine wpAnyH_take (i := 9) (oi := _) (v := undef) rfl (by kernel_rfl) (by kernel_rfl) (by kernel_rfl) (fun _ _ _ h => h) (Or.inr ⟨by kernel_rfl, rfl⟩) (by assumption) ?_
                  try simp only [Act.put, List.getElem_toArray, List.getElem_cons_succ, List.getElem_cons_zero, List.setIfInBounds_toArray, List.set_cons_zero, List.set_cons_succ]
                  refine wpAnyH_take (i := 10) (oi := _) (v := undef) rfl (by kernel_rfl) (by kernel_rfl) (by kernel_rfl) (fun _ _ _ h => h) (Or.inr ⟨by kernel_rfl, rfl⟩) (by assumption) ?_
                  try simp only [Act.put, List.getElem_toArray, List.getElem_cons_succ, List.getElem_cons_zero, List.setIfInBounds_toArray, List.set_cons_zero, List.set_cons_succ]
                  refine wpAnyH_take (i := 11) (oi := _) (v := undef) rfl (by kernel_rfl) (by kernel_rfl) (by kernel_rfl) (fun _ _ _ h => h) (Or.inr ⟨by kernel_rfl, rfl⟩) (by assumption) ?_
                  try simp only [Act.put, List.getElem_toArray, List.getElem_cons_succ, List.getElem_cons_zero, List.setIfInBounds_toArray, List.set_cons_zero, List.set_cons_succ]
                  refine wpAnyH_take (i := 12) (oi := _) (v := undef) rfl (by kernel_rfl) (by kernel_rfl) (by kernel_rfl) (fun _ _ _ h => h) (Or.inr ⟨by kernel_rfl, rfl⟩) (by assumption) ?_
                  try simp only [Act.put, List.getElem_toArray, List.getElem_cons_succ, List.getElem_cons_zero, List.setIfInBounds_toArray, List.set_cons_zero, List.set_cons_succ]
                  refine wpAnyH_take (i := 13) (oi := _) (v := undef) rfl (by kernel_rfl) (by kernel_rfl) (by kernel_rfl) (fun _ _ _ h => h) (Or.inr ⟨by kernel_rfl, rfl⟩) (by assumption) ?_
                  try simp only [Act.put, List.getElem_toArray, List.getElem_cons_succ, List.getElem_cons_zero, List.setIfInBounds_toArray, List.set_cons_zero, List.set_cons_succ]
                  refine wpAnyH_take (i := 14) (oi := _) (v := undef) rfl (by kernel_rfl) (by kernel_rfl) (by kernel_rfl) (fun _ _ _ h => h) (Or.inr ⟨by kernel_rfl, rfl⟩) (by assumption) ?_
                  try simp only [Act.put, List.getElem_toArray, List.getElem_cons_succ, List.getElem_cons_zero, List.setIfInBounds_toArray, List.set_cons_zero, List.set_cons_succ]
                  refine wpAnyH_take (i := 15) (oi := _) (v := undef) rfl (by kernel_rfl) (by kernel_rfl) (by kernel_rfl) (fun _ _ _ h => h) (Or.inr ⟨by kernel_rfl, rfl⟩) (by assumption) ?_
                  try simp only [Act.put, List.getElem_toArray, List.getElem_cons_succ, List.getElem_cons_zero, List.setIfInBounds_toArray, List.set_cons_zero, List.set_cons_succ]
                  refine wpAnyH_take (i := 16) (oi := _) (v := undef) rfl (by kernel_rfl) (by kernel_rfl) (by kernel_rfl) (fun _ _ _ h => h) (Or.inr ⟨by kernel_rfl, rfl⟩) (by assumption) ?_
                  try simp only [Act.put, List.getElem_toArray, List.getElem_cons_succ, List.getElem_cons_zero, List.setIfInBounds_toArray, List.set_cons_zero, List.set_cons_succ]
                  refine wpAnyH_take (i := 17) (oi := _) (v := undef) rfl (by kernel_rfl) (by kernel_rfl) (by kernel_rfl) (fun _ _ _ h => h) (Or.inr ⟨by kernel_rfl, rfl⟩) (by assumption) ?_
                  try simp only [Act.put, List.getElem_toArray, List.getElem_cons_succ, List.getElem_cons_zero, List.setIfInBounds_toArray, List.set_cons_zero, List.set_cons_succ]
                  refine wpAnyH_take (i := 18) (oi := _) (v := ?_) rfl (by kernel_rfl) (by kernel_rfl) (by kernel_rfl) (fun _ _ _ h => h) (Or.inl ⟨by rfl, ?_⟩) (by assumption) ?_
                  (rotate_left); (focus (intro wv hSw; (obtain ⟨qP, qX, qO, qV, qU, qC, qB⟩ := hSw); obtain ⟨u0_, u1_, _, _, _⟩ := blk2 qX; go_simp; (try with_reducible rfl)))
                  try simp only [Act.put, List.getElem_toArray, List.getElem_cons_succ, List.getElem_cons_zero, List.setIfInBounds_toArray, List.set_cons_zero, List.set_cons_succ]
                  refine wpAnyH_take (i := 19) (oi := _) (v := ?_) rfl (by kernel_rfl) (by kernel_rfl) (by kernel_rfl) (fun _ _ _ h => h) (Or.inl ⟨by rfl, ?_⟩) (by assumption) ?_
                  (rotate_left); (focus (intro wv hSw; (obtain ⟨qP, qX, qO, qV, qU, qC, qB⟩ := hSw); obtain ⟨u0_, u1_, _, _, _⟩ := blk2 qX; go_simp; (try with_reducible rfl)))
                  try simp only [Act.put, List.getElem_toArray, List.getElem_cons_succ, List.getElem_cons_zero, List.setIfInBounds_toArray, List.set_cons_zero, List.set_cons_succ]
                  refine wpAnyH_take (i := 20) (oi := _) (v := ?_) rfl (by kernel_rfl) (by kernel_rfl) (by kernel_rfl) (fun _ _ _ h => h) (Or.inl ⟨by rfl, ?_⟩) (by assumption) ?_
                  (rotate_left); (focus (intro wv hSw; (obtain ⟨qP, qX, qO, qV, qU, qC, qB⟩ := hSw); obtain ⟨u0_, u1_, _, _, _⟩ := blk2 qX; go_simp; (try with_reducible rfl)))
                  try simp only [Act.put, List.getElem_toArray, List.getElem_cons_succ, List.getElem_cons_zero, List.setIfInBounds_toArray, List.set_cons_zero, List.set_cons_succ]
                  refine wpAnyH_done (by kernel_rfl) ?_ _
                  go_wp2_with fail
                  go_roundw
                  case rel => exact ⟨j + 1, by go_num, by omega, by rw [HG2.out], hP_0, hO_0, hV_0, hX_0, hU_0, hB_0⟩
                  case measure => simp [intOf]; omega
                · have hvb : (v == (k : Int)) = false := by rw [beq_eq_false_iff_ne]; exact hvc
                  obtain ⟨dr, hdr⟩ : ∃ dr, daB d l2 v e f = dr := ⟨_, rfl⟩
                  have HDK : Hid (daB d l2 v e f = dr) := Lib.hid (hdr)
                  have hgn2 : gb2 = !dr := by rw [hgn, hvb, ← hdr]; unfold daB; rw [HOK2.out, ce_mk (xs := l2) (c := v) ⟨hvm.1, by rw [HSQ.out]; exact hvm.2⟩]; simp
                  subst hgn2
                  clear hgn hvc hdr
                  go_wp2_with fail
                  refine wp_region_held_drew (S := (fun w' => w'.heap[w1.heap.size]? = some (.cells #[.int .i64 d, .slice (some ⟨b1, off1, none⟩) m cp] 25) ∧ w'.heap[w6.heap.size]? = some (.cells #[.int .i64 d, .slice U m cu] 25) ∧ SOwn encNum w' w.heap.size 3 (some ⟨b1, off1, none⟩) cp xs ∧ SOwn encNum w' w.heap.size 3 (some ⟨b2, off2, none⟩) cv lit ∧ SOwn encNum w' w.heap.size 3 U cu l2 ∧ w'.cell? ⟨b2, off2 + j, none⟩ = some (.int .i64 v) ∧ Below w.heap.size w w')) (by kernel_rfl) ⟨hP, hX, hO.drew, hV.drew, hU.drew, cV, hB.drew⟩ (fun hHeld => ?_)
                  obtain ⟨hP_0, hX_0, hO_0, hV_0, hU_0, hC_0, hB_0⟩ := id hHeld
                  refine wpAnyH_take (i := 0) (oi := _) (v := ?_) rfl (by kernel_rfl) (by kernel_rfl) (by kernel_rfl) (fun _ _ _ h => h) (Or.inl ⟨by rfl, ?_⟩) (by assumption) ?_
                  (rotate_left); (focus (intro wv hSw; (obtain ⟨qP, qX, qO, qV, qU, qC, qB⟩ := hSw); obtain ⟨u0_, u1_, _, _, _⟩ := blk2 qX; go_simp; (try with_reducible rfl)))
                  try simp only [Act.put, List.getElem_toArray, List.getElem_cons_succ, List.getElem_cons_zero, List.setIfInBounds_toArray, List.set_cons_zero, List.set_cons_succ]
                  refine wpAnyH_take (i := 1) (oi := _) (v := ?_) rfl (by kernel_rfl) (by kernel_rfl) (by kernel_rfl) (fun _ _ _ h => h) (Or.inl ⟨by rfl, ?_⟩) (by assumption) ?_
                  (rotate_left); (focus (intro wv hSw; (obtain ⟨qP, qX, qO, qV, qU, qC, qB⟩ := hSw); obtain ⟨u0_, u1_, _, _, _⟩ := blk2 qX; go_simp; (try with_reducible rfl)))
                  try simp only [Act.put, List.getElem_toArray, List.getElem_cons_succ, List.getElem_cons_zero, List.setIfInBounds_toArray, List.set_cons_zero, List.set_cons_succ]
                  refine wpAnyH_take (i := 2) (oi := _) (v := ?_) rfl (by kernel_rfl) (by kernel_rfl) (by kernel_rfl) (fun _ _ _ h => h) (Or.inl ⟨by rfl, ?_⟩) (by assumption) ?_
                  (rotate_left); (focus (intro wv hSw; (obtain ⟨qP, qX, qO, qV, qU, qC, qB⟩ := hSw); obtain ⟨u0_, u1_, _, _, _⟩ := blk2 qX; go_simp; (try with_reducible rfl)))
                  try simp only [Act.put, List.getElem_toArray, List.getElem_cons_succ, List.getElem_cons_zero, List.setIfInBounds_toArray, List.set_cons_zero, List.set_cons_succ]
                  refine wpAnyH_take (i := 3) (oi := _) (v := ?_) rfl (by kernel_rfl) (by kernel_rfl) (by kernel_rfl) (fun _ _ _ h => h) (Or.inl ⟨by rfl, ?_⟩) (by assumption) ?_
                  (rotate_left); (focus (intro wv hSw; (obtain ⟨qP, qX, qO, qV, qU, qC, qB⟩ := hSw); obtain ⟨u0_, u1_, _, _, _⟩ := blk2 qX; go_simp; (try with_reducible rfl)))
                  try simp only [Act.put, List.getElem_toArray, List.getElem_cons_succ, List.getElem_cons_zero, List.setIfInBounds_toArray, List.set_cons_zero, List.set_cons_succ]
                  refine wpAnyH_take (i := 4) (oi := _) (v := ?_) rfl (by kernel_rfl) (by kernel_rfl) (by kernel_rfl) (fun _ _ _ h => h) (Or.inl ⟨by rfl, ?_⟩) (by assumption) ?_
                  (rotate_left); (focus (intro wv hSw; (obtain ⟨qP, qX, qO, qV, qU, qC, qB⟩ := hSw); obtain ⟨u0_, u1_, _, _, _⟩ := blk2 qX; go_simp; (try with_reducible rfl)))
                  try simp only [Act.put, List.getElem_toArray, List.getElem_cons_succ, List.getElem_cons_zero, List.setIfInBounds_toArray, List.set_cons_zero, List.set_cons_succ]
                  refine wpAnyH_take (i := 5) (oi := _) (v := ?_) rfl (by kernel_rfl) (by kernel_rfl) (by kernel_rfl) (fun _ _ _ h => h) (Or.inl ⟨by rfl, ?_⟩) (by assumption) ?_
                  (rotate_left); (focus (intro wv hSw; (obtain ⟨qP, qX, qO, qV, qU, qC, qB⟩ := hSw); obtain ⟨u0_, u1_, _, _, _⟩ := blk2 qX; go_simp; (try with_reducible rfl)))
                  try simp only [Act.put, List.getElem_toArray, List.getElem_cons_succ, List.getElem_cons_zero, List.setIfInBounds_toArray, List.set_cons_zero, List.set_cons_succ]
                  refine wpAnyH_take (i := 6) (oi := _) (v := ?_) rfl (by kernel_rfl) (by kernel_rfl) (by kernel_rfl) (fun _ _ _ h => h) (Or.inl ⟨by rfl, ?_⟩) (by assumption) ?_
                  (rotate_left); (focus (intro wv hSw; (obtain ⟨qP, qX, qO, qV, qU, qC, qB⟩ := hSw); obtain ⟨u0_, u1_, _, _, _⟩ := blk2 qX; go_simp; (try with_reducible rfl)))
                  try simp only [Act.put, List.getElem_toArray, List.getElem_cons_succ, List.getElem_cons_zero, List.setIfInBounds_toArray, List.set_cons_zero, List.set_cons_succ]
                  refine wpAnyH_take (i := 7) (oi := _) (v := ?_) rfl (by kernel_rfl) (by kernel_rfl) (by kernel_rfl) (fun _ _ _ h => h) (Or.inl ⟨by rfl, ?_⟩) (by assumption) ?_
                  (rotate_left); (focus (intro wv hSw; (obtain ⟨qP, qX, qO, qV, qU, qC, qB⟩ := hSw); obtain ⟨u0_, u1_, _, _, _⟩ := blk2 qX; go_simp; (try with_reducible rfl)))
                  try simp only [Act.put, List.getElem_toArray, List.getElem_cons_succ, List.getElem_cons_zero, List.setIfInBounds_toArray, List.set_cons_zero, List.set_cons_succ]
                  refine wpAnyH_take (i := 8) (oi := _) (v := ?_) rfl (by kernel_rfl) (by kernel_rfl) (by kernel_rfl) (fun _ _ _ h => h) (Or.inl ⟨by rfl, ?_⟩) (by assumption) ?_
                  (rotate_left); (focus (intro wv hSw; (obtain ⟨qP, qX, qO, qV, qU, qC, qB⟩ := hSw); obtain ⟨u0_, u1_, _, _, _⟩ := blk2 qX; go_simp; (try with_reducible rfl)))
                  try simp only [Act.put, List.getElem_toArray, List.getElem_cons_succ, List.getElem_cons_zero, List.setIfInBounds_toArray, List.set_cons_zero, List.set_cons_succ]
                  refine wpAnyH_take (i := 9) (oi := _) (v := ?_) rfl (by kernel_rfl) (by kernel_rfl) (by kernel_rfl) (fun _ _ _ h => h) (Or.inl ⟨by rfl, ?_⟩) (by assumption) ?_
                  (rotate_left); (focus (intro wv hSw; (obtain ⟨qP, qX, qO, qV, qU, qC, qB⟩ := hSw); obtain ⟨u0_, u1_, _, _, _⟩ := blk2 qX; go_simp; (try with_reducible rfl)))
                  try simp only [Act.put, List.getElem_toArray, List.getElem_cons_succ, List.getElem_cons_zero, List.setIfInBounds_toArray, List.set_cons_zero, List.set_cons_succ]
                  refine wpAnyH_take (i := 10) (oi := _) (v := ?_) rfl (by kernel_rfl) (by kernel_rfl) (by kernel_rfl) (fun _ _ _ h => h) (Or.inl ⟨by rfl, ?_⟩) (by assumption) ?_
                  (rotate_left); (focus (intro wv hSw; (obtain ⟨qP, qX, qO, qV, qU, qC, qB⟩ := hSw); obtain ⟨u0_, u1_, _, _, _⟩ := blk2 qX; go_simp; (try with_reducible rfl)))
                  try simp only [Act.put, List.getElem_toArray, List.getElem_cons_succ, List.getElem_cons_zero, List.setIfInBounds_toArray, List.set_cons_zero, List.set_cons_succ]
                  refine wpAnyH_take (i := 11) (oi := _) (v := ?_) rfl (by kernel_rfl) (by kernel_rfl) (by kernel_rfl) (fun _ _ _ h => h) (Or.inl ⟨by rfl, ?_⟩) (by assumption) ?_
                  (rotate_left); (focus (intro wv hSw; (obtain ⟨qP, qX, qO, qV, qU, qC, qB⟩ := hSw); obtain ⟨u0_, u1_, _, _, _⟩ := blk2 qX; go_simp; (try with_reducible rfl)))
                  try simp only [Act.put, List.getElem_toArray, List.getElem_cons_succ, List.getElem_cons_zero, List.setIfInBounds_toArray, List.set_cons_zero, List.set_cons_succ]
                  refine wpAnyH_take (i := 12) (oi := _) (v := ?_) rfl (by kernel_rfl) (by kernel_rfl) (by kernel_rfl) (fun _ _ _ h => h) (Or.inl ⟨by rfl, ?_⟩) (by assumption) ?_
                  (rotate_left); (focus (intro wv hSw; (obtain ⟨qP, qX, qO, qV, qU, qC, qB⟩ := hSw); obtain ⟨u0_, u1_, _, _, _⟩ := blk2 qX; go_simp; (try with_reducible rfl)))
                  try simp only [Act.put, List.getElem_toArray, List.getElem_cons_succ, List.getElem_cons_zero, List.setIfInBounds_toArray, List.set_cons_zero, List.set_cons_succ]
                  refine wpAnyH_take (i := 13) (oi := _) (v := ?_) rfl (by kernel_rfl) (by kernel_rfl) (by kernel_rfl) (fun _ _ _ h => h) (Or.inl ⟨by rfl, ?_⟩) (by assumption) ?_
                  (rotate_left); (focus (intro wv hSw; (obtain ⟨qP, qX, qO, qV, qU, qC, qB⟩ := hSw); obtain ⟨u0_, u1_, _, _, _⟩ := blk2 qX; go_simp; (try with_reducible rfl)))
                  try simp only [Act.put, List.getElem_toArray, List.getElem_cons_succ, List.getElem_cons_zero, List.setIfInBounds_toArray, List.set_cons_zero, List.set_cons_succ]
                  refine wpAnyH_take (i := 14) (oi := _) (v := ?_) rfl (by kernel_rfl) (by kernel_rfl) (by kernel_rfl) (fun _ _ _ h => h) (Or.inl ⟨by rfl, ?_⟩) (by assumption) ?_
                  (rotate_left); (focus (intro wv hSw; (obtain ⟨qP, qX, qO, qV, qU, qC, qB⟩ := hSw); obtain ⟨u0_, u1_, _, _, _⟩ := blk2 qX; go_simp; (try with_reducible rfl)))
                  try simp only [Act.put, List.getElem_toArray, List.getElem_cons_succ, List.getElem_cons_zero, List.setIfInBounds_toArray, List.set_cons_zero, List.set_cons_succ]
                  refine wpAnyH_take (i := 15) (oi := _) (v := ?_) rfl (by kernel_rfl) (by kernel_rfl) (by kernel_rfl) (fun _ _ _ h => h) (Or.inl ⟨by rfl, ?_⟩) (by assumption) ?_
                  (rotate_left); (focus (intro wv hSw; (obtain ⟨qP, qX, qO, qV, qU, qC, qB⟩ := hSw); obtain ⟨u0_, u1_, _, _, _⟩ := blk2 qX; go_simp; (try with_reducible rfl)))
                  try simp only [Act.put, List.getElem_toArray, List.getElem_cons_succ, List.getElem_cons_zero, List.setIfInBounds_toArray, List.set_cons_zero, List.set_cons_succ]
                  refine wpAnyH_ready (rs := [16]) (by kernel_rfl) (by simp) ?_
                  refine AllReadyH.cons (o := _) rfl (fun K hK => ?_) AllReadyH.nil
                  go_simp
                  (go_at_call 20; refine (iDk_is d U cu l2 v e f _ HSQ.out hU_0.row (by omega) HDK.out).mono ?_; rintro e x0c ⟨rfl, hw_0c⟩)
                  refine hK.out _ _ ⟨blk_next hP_0 hw_0c, blk_next hX_0 hw_0c, hO_0.next hw_0c, hV_0.next hw_0c, hU_0.next hw_0c, celS_next hC_0 hw_0c, bel_next hB_0 hw_0c⟩ (fun hHeld => ?_)
                  clear hK K
                  try simp only [Act.put, List.getElem_toArray, List.getElem_cons_succ, List.getElem_cons_zero, List.setIfInBounds_toArray, List.set_cons_zero, List.set_cons_succ]
                  obtain ⟨hP_0c, hX_0c, hO_0c, hV_0c, hU_0c, hC_0c, hB_0c⟩ := id hHeld
                  refine wpAnyH_take (i := 17) (oi := _) (v := ?_) rfl (by kernel_rfl) (by kernel_rfl) (by kernel_rfl) (fun _ _ _ h => h) (Or.inl ⟨by rfl, ?_⟩) (by assumption) ?_
                  (rotate_left); (focus (intro wv hSw; (obtain ⟨qP, qX, qO, qV, qU, qC, qB⟩ := hSw); obtain ⟨u0_, u1_, _, _, _⟩ := blk2 qX; go_simp; (try with_reducible rfl)))
                  try simp only [Act.put, List.getElem_toArray, List.getElem_cons_succ, List.getElem_cons_zero, List.setIfInBounds_toArray, List.set_cons_zero, List.set_cons_succ]
                  refine wpAnyH_take (i := 18) (oi := _) (v := ?_) rfl (by kernel_rfl) (by kernel_rfl) (by kernel_rfl) (fun _ _ _ h => h) (Or.inl ⟨by rfl, ?_⟩) (by assumption) ?_
                  (rotate_left); (focus (intro wv hSw; (obtain ⟨qP, qX, qO, qV, qU, qC, qB⟩ := hSw); obtain ⟨u0_, u1_, _, _, _⟩ := blk2 qX; go_simp; (try with_reducible rfl)))
                  try simp only [Act.put, List.getElem_toArray, List.getElem_cons_succ, List.getElem_cons_zero, List.setIfInBounds_toArray, List.set_cons_zero, List.set_cons_succ]
                  refine wpAnyH_take (i := 19) (oi := _) (v := ?_) rfl (by kernel_rfl) (by kernel_rfl) (by kernel_rfl) (fun _ _ _ h => h) (Or.inl ⟨by rfl, ?_⟩) (by assumption) ?_
                  (rotate_left); (focus (intro wv hSw; (obtain ⟨qP, qX, qO, qV, qU, qC, qB⟩ := hSw); obtain ⟨u0_, u1_, _, _, _⟩ := blk2 qX; go_simp; (try with_reducible rfl)))
                  try simp only [Act.put, List.getElem_toArray, List.getElem_cons_succ, List.getElem_cons_zero, List.setIfInBounds_toArray, List.set_cons_zero, List.set_cons_succ]
                  refine wpAnyH_take (i := 20) (oi := _) (v := ?_) rfl (by kernel_rfl) (by kernel_rfl) (by kernel_rfl) (fun _ _ _ h => h) (Or.inl ⟨by rfl, ?_⟩) (by assumption) ?_
                  (rotate_left); (focus (intro wv hSw; (obtain ⟨qP, qX, qO, qV, qU, qC, qB⟩ := hSw); obtain ⟨u0_, u1_, _, _, _⟩ := blk2 qX; go_simp; (try with_reducible rfl)))
                  try simp only [Act.put, List.getElem_toArray, List.getElem_cons_succ, List.getElem_cons_zero, List.setIfInBounds_toArray, List.set_cons_zero, List.set_cons_succ]
                  refine wpAnyH_done (by kernel_rfl) ?_ _
                  go_wp2_with fail
                  go_roundw
                  case rel => exact ⟨j + 1, by go_num, by omega, by rw [HG2.out], hP_0c, hO_0c, hV_0c, hX_0c, hU_0c, hB_0c⟩
                  case measure => simp [intOf]; omega
            · have hjq : j = q := by omega
              subst hjq
              have hji : ¬ (j : Int) < (j : Int) := by omega
              rw [List.take_of_length_le (Nat.le_of_eq HQ.out), HGK.out]
              by_cases hyM : y ≤ M
              · go_wp2_with fail
                go_roundw
                case rel => exact ⟨y + 1, by go_num, by omega, by omega, hP, hO, hV, hB⟩
                case measure => simp [intOf]; omega
              · go_wp2_with fail
                go_roundw
                case rel => exact ⟨y + 1, by go_num, by omega, by omega, hP, hO, hV, hB⟩
                case measure => simp [intOf]; omega
        · have cA := rowCel hO.row HKX.out HT.out
          go_wp2_with fail
          go_ret
          exact ⟨rfl, hB⟩

set_option maxRecDepth 100000 in
theorem lifted (os : Os) (started : os.Started) (H : Type) (enc : TypeId × Value → H) :
    ReturnsInHanded {} Try.checked os 11 .any (Rows.fnKeepLitSpec.pre6 enc Try.prog Try.f11 Rows.fnKeepLitRow.domain false) (Rows.fnKeepLitSpec.post enc Try.prog Try.f11 false true false false) := by
  refine returnsInHanded_of_change (C := Try.checked) own started (by kernel_rfl) Try.func11
    (ChangeSpec.witness6 (enc := enc) (C := Try.checked) false ⟨#[], #[.slice none 0 0], []⟩ 8 (by kernel_rfl) (by kernel_rfl) (by kernel_rfl) (by kernel_rfl)) ?_
  intro W base args ds gs before hval0 hW hcnd _
  have hval : ∀ (j : Nat) t v, Try.f11.params[j]? = some t → args[j]? = some v → Value.okWide Try.prog W .any base t v := hval0
  have hW' := hW
  obtain ⟨p, q, hA0, hV, rfl, hfz, hnd⟩ := hW
  have hA : DataW.TrodAll enc Try.prog W 0 (fun _ => true) true Try.f11.params.toList args.toList ds p := hA0
  rw [Try.params11] at hA hval
  obtain ⟨v0, vs0, d0, ds0, p0, q0, hargs, rfl, rfl, h0, r0⟩ := trodAll_cons hA
  obtain ⟨rfl, rfl, rfl⟩ := trodAll_nil r0
  obtain rfl : args = #[v0] := by cases args; simp_all
  obtain ⟨rfl, rfl⟩ := trodVars_none hV
  have k0 := h0
  have lt0 : ∀ x ∈ p0, x.block < W.heap.size := by obtain ⟨m, hm⟩ := k0; exact DataW.trod_lt m _ _ _ hm
  obtain ⟨a0, len0, cap0, rfl⟩ := okWide_slice Try.underlying22 (hval 0 22 v0 rfl rfl)
  have w0 : CodeOk W a0 len0 cap0 := by
    obtain ⟨fuel, hf⟩ := h0
    rcases open_ints Try.underlying22 Try.underlying5 (by kernel_rfl) hf with ⟨hcs, _⟩ | ⟨x, l, c, zs, hcs, _, hl, hm, hz, _, hcell, hwz⟩
    · simp [Value.cells] at hcs
      obtain ⟨rfl, rfl, rfl⟩ := hcs
      exact code_nil W
    · simp [Value.cells] at hcs
      obtain ⟨rfl, rfl, rfl⟩ := hcs
      exact code_ok hl hm (by simp at hz; omega) hcell hwz
  clear hA0 hval0
  refine (walk W a0 len0 cap0 w0).mono fun e W' ⟨he, bel⟩ => ?_
  subst he
  exact ⟨_, rfl, _, _, _, [], _, [], hW', trodAll_mk1 (shut_bool Try.underlying4 _), (trodAll_cons_mk (Below.trod laidOut (by kernel_rfl) (of_decide_eq_true (by kernel_rfl)) k0 bel lt0) trodAll_mk0), rfl, bel.frame _, fun h => by cases h⟩

theorem over : Rows.fnKeepLitRow.holds Try.pinned (OpenSpec.ofChange Rows.fnKeepLitSpec) :=
  OpenClaim.holds_of_wide 11 Try.f11 rfl rfl rfl rfl rfl rfl rfl ⟨rfl, rfl, rfl, rfl, rfl⟩ rfl rfl rfl rfl rfl (by kernel_rfl) Try.func11 (by kernel_rfl)
    (of_decide_eq_true (by kernel_rfl)) (by unfold Func.isWrapper; first | (rw [if_pos (by decide +kernel)]; kernel_rfl) | (rw [if_neg (by decide +kernel)]; exact ⟨rfl, rfl⟩))
    (fun os started H enc _ => lifted os started H enc)

/-- The statement. -/
theorem proved : Rows.FnKeepLitSaid :=
  over
#print axioms proved
end Go.Proofs.Ytidppabconifkaa.fnKeepLit
