/- FnCitySet: whatever the input, the law returns true, and its arguments read as they did. No conditions beyond those of the statement's row. -/
import Derived.Test.YtidppabconifkaaYe
import Derived.Test.YtidppabconifkaaYi
import Derived.Test.YtidppabconifkaaOb
import Derived.Test.YtidppabconifkaaLp
namespace Go.Proofs.Ytidppabconifkaa.fnCitySet
open Go.Proofs.Ytidppabconifkaa
open Go.ChangeShapes Go.WideShapes Go.ChangeAt Go.RowKit Go.Joins
set_option linter.unusedVariables false
set_option linter.unusedSimpArgs false
set_option linter.unnecessarySimpa false

theorem own : ownKnob Try.prog.godebug = none := by kernel_rfl
theorem laidOut : laidOutB Try.prog = true := by kernel_rfl

set_option maxRecDepth 100000 in
set_option maxHeartbeats 4000000 in
theorem walk (w : World) (a0 : Option Addr) (len0 cap0 : Nat) (w0 : CodeOk w a0 len0 cap0) :
    Calls Try.prog 8 #[.slice a0 len0 cap0] w fun e w' => e = .returned (.bool true) ∧ Below w.heap.size w w' := by
  by_cases hl : 1048576 < len0
  · have w0' := w0.2.1
    unfold maxLen at w0'
    clear w0
    go_enter Try.func8, Try.ntmps8
    go_wp2
    go_ret
    exact ⟨rfl, Below.refl _ _⟩
  · have w0' := w0.2.1
    unfold maxLen at w0'
    have hle := w0.1
    have HW := Lib.hid w0
    clear w0
    go_enter Try.func8, Try.ntmps8
    go_wp2_with fail
    refine (drCitySet_any _ _ _ _ HW.out).mono ?_; rintro e w1 ⟨d, xs, A, cp, c, t, rfl, ⟨d0, d1⟩, hx6, hO0, ⟨c0_, c1_⟩, ⟨t0_, t1_⟩, hB0⟩
    obtain ⟨m, hm⟩ : ∃ m, xs.length = m := ⟨_, rfl⟩
    rw [hm] at hx6 ⊢
    have HM := Lib.hid hm
    clear hm
    cases hv : csB d xs c t
    · have HSB : Hid (csB d xs c t = false) := Lib.hid (hv)
      have HSD : Hid (csD d xs c t = 0) := Lib.hid (csD_no hv)
      have HSL : Hid (csL d xs c t = []) := Lib.hid (csL_no hv)
      clear hv
      have hP1 : (w1.alloc (.cells #[.int .i64 d, .slice A m cp] 25)).heap[w1.heap.size]? = some (.cells #[.int .i64 d, .slice A m cp] 25) := by have := blk_new (w1) (.cells #[.int .i64 d, .slice A m cp] 25); simpa using this
      have hB1 := hB0.alloc hB0.size (.cells #[.int .i64 d, .slice A m cp] 25)
      have hO1 := hO0.next (bel1 _ (.cells #[.int .i64 d, .slice A m cp] 25))
      have zBP := hB0.size
      obtain ⟨cP1_0, cP1_1, fP1_0, fP1_1, zP1⟩ := blk2 hP1
      go_wp2_with fail
      refine (iCset_len d A cp xs c t _ HM.out hO1.row (by omega) HSB.out HSD.out HSL.out rfl).mono ?_; rintro e' w2 ⟨V, cv, rfl, hV2, hw2⟩
      have hP2 := blk_next hP1 hw2
      have hO2 := hO1.next hw2
      have hB2 := bel_next hB1 hw2
      have hV2 := hV2.mono (base' := w.heap.size) hB1.size
      have zPQ := blk_lt hP2
      have hQ3 : (w2.alloc (.cells #[.int .i64 0, .slice V 0 cv] 25)).heap[w2.heap.size]? = some (.cells #[.int .i64 0, .slice V 0 cv] 25) := by have := blk_new (w2) (.cells #[.int .i64 0, .slice V 0 cv] 25); simpa using this
      have hP3 := blk_old hP2 (.cells #[.int .i64 0, .slice V 0 cv] 25)
      have hB3 := hB2.alloc hB2.size (.cells #[.int .i64 0, .slice V 0 cv] 25)
      have hO3 := hO2.next (bel1 _ (.cells #[.int .i64 0, .slice V 0 cv] 25))
      have hV3 := hV2.next (bel1 _ (.cells #[.int .i64 0, .slice V 0 cv] 25))
      have zBQ := hB2.size
      obtain ⟨cP3_0, cP3_1, fP3_0, fP3_1, zP3⟩ := blk2 hP3
      go_wp2_with fail
      refine (sCset_len d A cp xs c t _ HM.out hO3.row (by omega) HSB.out HSD.out HSL.out rfl).mono ?_; rintro e' w4 ⟨U, cu, rfl, hU4, hw4⟩
      have hP4 := blk_next hP3 hw4
      have hQ4 := blk_next hQ3 hw4
      have hO4 := hO3.next hw4
      have hV4 := hV3.next hw4
      have hB4 := bel_next hB3 hw4
      have hU4 := hU4.mono (base' := w.heap.size) hB3.size
      have zPY := blk_lt hP4
      have zQY := blk_lt hQ4
      have hY5 : (w4.alloc (.cells #[.int .i64 0, .slice U 0 cu] 25)).heap[w4.heap.size]? = some (.cells #[.int .i64 0, .slice U 0 cu] 25) := by have := blk_new (w4) (.cells #[.int .i64 0, .slice U 0 cu] 25); simpa using this
      have hP5 := blk_old hP4 (.cells #[.int .i64 0, .slice U 0 cu] 25)
      have hQ5 := blk_old hQ4 (.cells #[.int .i64 0, .slice U 0 cu] 25)
      have hB5 := hB4.alloc hB4.size (.cells #[.int .i64 0, .slice U 0 cu] 25)
      have hO5 := hO4.next (bel1 _ (.cells #[.int .i64 0, .slice U 0 cu] 25))
      have hV5 := hV4.next (bel1 _ (.cells #[.int .i64 0, .slice U 0 cu] 25))
      have hU5 := hU4.next (bel1 _ (.cells #[.int .i64 0, .slice U 0 cu] 25))
      have zBY := hB4.size
      obtain ⟨cQ5_0, cQ5_1, fQ5_0, fQ5_1, zQ5⟩ := blk2 hQ5
      obtain ⟨cY5_0, cY5_1, fY5_0, fY5_1, zY5⟩ := blk2 hY5
      go_wp2_with fail
      refine (sameCity_is (n := 0) 0 V U cv cu [] rfl hV5.row hU5.row (by omega)).mono ?_; rintro e' w6 ⟨rfl, hw6⟩
      have hP6 := blk_next hP5 hw6
      have hQ6 := blk_next hQ5 hw6
      have hY6 := blk_next hY5 hw6
      have hO6 := hO5.next hw6
      have hV6 := hV5.next hw6
      have hU6 := hU5.next hw6
      have hB6 := bel_next hB5 hw6
      obtain ⟨cQ6_0, cQ6_1, fQ6_0, fQ6_1, zQ6⟩ := blk2 hQ6
      go_wp2_with fail
      refine (alive_any _).mono ?_; rintro e' w' ⟨rfl, rfl⟩
      go_wp2
      go_ret
      exact ⟨rfl, hB6⟩
    · have hb := cs_back hv
      obtain ⟨hcv, hce, htl⟩ := cs_parts hv
      have hcr := ce_rng hce
      have htr := tlB_iff.1 htl
      obtain ⟨k, rfl⟩ : ∃ k : Nat, c = (k : Int) := ⟨c.toNat, by omega⟩
      have hkx : k < xs.length := by omega
      obtain ⟨u, hu⟩ : ∃ u, xs[k]'hkx = u := ⟨_, rfl⟩
      rw [tlI_at hkx, hu, Int.toNat_natCast] at hb
      obtain ⟨l, hl⟩ : ∃ l, xs.set k t = l := ⟨_, rfl⟩
      rw [hl] at hb
      obtain ⟨hb1, hb2, hb3, hb4⟩ := hb
      have hrn := (cvB_iff.1 hcv).2.2
      have hur : 0 ≤ u ∧ u ≤ 20 := by rw [← hu]; exact hrn _ (List.getElem_mem hkx)
      have hs0 := su_rng hrn xs.length
      obtain ⟨s, hs⟩ : ∃ s, suI xs xs.length = s := ⟨_, rfl⟩
      rw [hs] at hs0 hb4
      rw [HM.out] at hs0
      obtain ⟨y, hy⟩ : ∃ y, t - u = y := ⟨_, rfl⟩
      rw [hy] at hb4
      obtain ⟨s1, hs1⟩ : ∃ s1, s + y = s1 := ⟨_, rfl⟩
      rw [hs1] at hb4
      have HSB : Hid (csB d xs (k : Int) t = true) := Lib.hid (hv)
      have HSD : Hid (csD d xs (k : Int) t = d) := Lib.hid (csD_yes hv)
      have HSL : Hid (csL d xs (k : Int) t = l) := Lib.hid (by rw [csL_yes hv, Int.toNat_natCast]; exact hl)
      have HQ : Hid (l.length = m) := Lib.hid (by rw [← hl, List.length_set, HM.out])
      have HRB : Hid (csB d l (k : Int) u = true) := Lib.hid (hb1)
      have HRD : Hid (csD d l (k : Int) u = d) := Lib.hid (csD_yes hb1)
      have HRL : Hid (csL d l (k : Int) u = xs) := Lib.hid (by rw [csL_yes hb1, Int.toNat_natCast]; exact hb2)
      have HCV := Lib.hid hb3
      have HS0 : Hid (csI d xs = s) := Lib.hid ((cs_yes hcv).trans hs)
      have HS1 := Lib.hid hb4
      have HU := Lib.hid hu
      have HKX := Lib.hid hkx
      have hki : (k : Int) < (m : Int) := by have := HM.out; omega
      have HW1 : Hid (IntKind.i64.wrap (s1 - s) = y) := Lib.hid (by rw [← hs1, show s + y - s = y by omega]; exact IntWalk.i64_in _ (by omega))
      have HW2 : Hid (IntKind.i64.wrap (t - u) = y) := Lib.hid (by rw [hy]; exact IntWalk.i64_in _ (by omega))
      clear hv hcv hce htl hcr htr hl hb1 hb2 hb3 hb4 hrn hs hs1 hy hu
      have hP1 : (w1.alloc (.cells #[.int .i64 d, .slice A m cp] 25)).heap[w1.heap.size]? = some (.cells #[.int .i64 d, .slice A m cp] 25) := by have := blk_new (w1) (.cells #[.int .i64 d, .slice A m cp] 25); simpa using this
      have hB1 := hB0.alloc hB0.size (.cells #[.int .i64 d, .slice A m cp] 25)
      have hO1 := hO0.next (bel1 _ (.cells #[.int .i64 d, .slice A m cp] 25))
      have zBP := hB0.size
      obtain ⟨cP1_0, cP1_1, fP1_0, fP1_1, zP1⟩ := blk2 hP1
      go_wp2_with fail
      refine (iCset_len d A cp xs k t _ HM.out hO1.row (by omega) HSB.out HSD.out HSL.out HQ.out).mono ?_; rintro e' w2 ⟨V, cv, rfl, hV2, hw2⟩
      have hP2 := blk_next hP1 hw2
      have hO2 := hO1.next hw2
      have hB2 := bel_next hB1 hw2
      have hV2 := hV2.mono (base' := w.heap.size) hB1.size
      have zPQ := blk_lt hP2
      have hQ3 : (w2.alloc (.cells #[.int .i64 d, .slice V m cv] 25)).heap[w2.heap.size]? = some (.cells #[.int .i64 d, .slice V m cv] 25) := by have := blk_new (w2) (.cells #[.int .i64 d, .slice V m cv] 25); simpa using this
      have hP3 := blk_old hP2 (.cells #[.int .i64 d, .slice V m cv] 25)
      have hB3 := hB2.alloc hB2.size (.cells #[.int .i64 d, .slice V m cv] 25)
      have hO3 := hO2.next (bel1 _ (.cells #[.int .i64 d, .slice V m cv] 25))
      have hV3 := hV2.next (bel1 _ (.cells #[.int .i64 d, .slice V m cv] 25))
      have zBQ := hB2.size
      obtain ⟨cP3_0, cP3_1, fP3_0, fP3_1, zP3⟩ := blk2 hP3
      go_wp2_with fail
      refine (sCset_len d A cp xs k t _ HM.out hO3.row (by omega) HSB.out HSD.out HSL.out HQ.out).mono ?_; rintro e' w4 ⟨U, cu, rfl, hU4, hw4⟩
      have hP4 := blk_next hP3 hw4
      have hQ4 := blk_next hQ3 hw4
      have hO4 := hO3.next hw4
      have hV4 := hV3.next hw4
      have hB4 := bel_next hB3 hw4
      have hU4 := hU4.mono (base' := w.heap.size) hB3.size
      have zPY := blk_lt hP4
      have zQY := blk_lt hQ4
      have hY5 : (w4.alloc (.cells #[.int .i64 d, .slice U m cu] 25)).heap[w4.heap.size]? = some (.cells #[.int .i64 d, .slice U m cu] 25) := by have := blk_new (w4) (.cells #[.int .i64 d, .slice U m cu] 25); simpa using this
      have hP5 := blk_old hP4 (.cells #[.int .i64 d, .slice U m cu] 25)
      have hQ5 := blk_old hQ4 (.cells #[.int .i64 d, .slice U m cu] 25)
      have hB5 := hB4.alloc hB4.size (.cells #[.int .i64 d, .slice U m cu] 25)
      have hO5 := hO4.next (bel1 _ (.cells #[.int .i64 d, .slice U m cu] 25))
      have hV5 := hV4.next (bel1 _ (.cells #[.int .i64 d, .slice U m cu] 25))
      have hU5 := hU4.next (bel1 _ (.cells #[.int .i64 d, .slice U m cu] 25))
      have zBY := hB4.size
      obtain ⟨cQ5_0, cQ5_1, fQ5_0, fQ5_1, zQ5⟩ := blk2 hQ5
      obtain ⟨cY5_0, cY5_1, fY5_0, fY5_1, zY5⟩ := blk2 hY5
      go_wp2_with fail
      refine (sameCity_is d V U cv cu l HQ.out hV5.row hU5.row (by omega)).mono ?_; rintro e' w6 ⟨rfl, hw6⟩
      have hP6 := blk_next hP5 hw6
      have hQ6 := blk_next hQ5 hw6
      have hY6 := blk_next hY5 hw6
      have hO6 := hO5.next hw6
      have hV6 := hV5.next hw6
      have hU6 := hU5.next hw6
      have hB6 := bel_next hB5 hw6
      obtain ⟨cP6_0, cP6_1, fP6_0, fP6_1, zP6⟩ := blk2 hP6
      obtain ⟨cQ6_0, cQ6_1, fQ6_0, fQ6_1, zQ6⟩ := blk2 hQ6
      obtain ⟨b1, off1, rfl, _, cA⟩ := rowNum hO6.row hkx
      clear cA hU6 hY6
      go_wp2_with fail
      refine wp_region_held_drew (S := (fun w' => w'.heap[w1.heap.size]? = some (.cells #[.int .i64 d, .slice (some ⟨b1, off1, none⟩) m cp] 25) ∧ w'.heap[w2.heap.size]? = some (.cells #[.int .i64 d, .slice V m cv] 25) ∧ SOwn encNum w' w.heap.size 3 (some ⟨b1, off1, none⟩) cp xs ∧ SOwn encNum w' w.heap.size 3 V cv l ∧ Below w.heap.size w w')) (by kernel_rfl) ⟨hP6, hQ6, hO6.drew, hV6.drew, hB6.drew⟩ (fun hHeld => ?_)
      obtain ⟨hP_0, hQ_0, hO_0, hV_0, hB_0⟩ := id hHeld
      refine wpAnyH_take (i := 0) (oi := _) (v := ?_) rfl (by kernel_rfl) (by kernel_rfl) (by kernel_rfl) (fun _ _ _ h => h) (Or.inl ⟨by rfl, ?_⟩) (by assumption) ?_
      (rotate_left); (focus (intro wv hSw; (obtain ⟨qP, qQ, qO, qV, qB⟩ := hSw); obtain ⟨u0_, u1_, _, _, _⟩ := blk2 qP; obtain ⟨v0_, v1_, _, _, _⟩ := blk2 qQ; go_simp; (try with_reducible rfl)))
      try simp only [Act.put, List.getElem_toArray, List.getElem_cons_succ, List.getElem_cons_zero, List.setIfInBounds_toArray, List.set_cons_zero, List.set_cons_succ]
      refine wpAnyH_take (i := 1) (oi := _) (v := ?_) rfl (by kernel_rfl) (by kernel_rfl) (by kernel_rfl) (fun _ _ _ h => h) (Or.inl ⟨by rfl, ?_⟩) (by assumption) ?_
      (rotate_left); (focus (intro wv hSw; (obtain ⟨qP, qQ, qO, qV, qB⟩ := hSw); obtain ⟨u0_, u1_, _, _, _⟩ := blk2 qP; obtain ⟨v0_, v1_, _, _, _⟩ := blk2 qQ; go_simp; (try with_reducible rfl)))
      try simp only [Act.put, List.getElem_toArray, List.getElem_cons_succ, List.getElem_cons_zero, List.setIfInBounds_toArray, List.set_cons_zero, List.set_cons_succ]
      refine wpAnyH_take (i := 2) (oi := _) (v := ?_) rfl (by kernel_rfl) (by kernel_rfl) (by kernel_rfl) (fun _ _ _ h => h) (Or.inl ⟨by rfl, ?_⟩) (by assumption) ?_
      (rotate_left); (focus (intro wv hSw; (obtain ⟨qP, qQ, qO, qV, qB⟩ := hSw); obtain ⟨u0_, u1_, _, _, _⟩ := blk2 qP; obtain ⟨v0_, v1_, _, _, _⟩ := blk2 qQ; go_simp; (try with_reducible rfl)))
      try simp only [Act.put, List.getElem_toArray, List.getElem_cons_succ, List.getElem_cons_zero, List.setIfInBounds_toArray, List.set_cons_zero, List.set_cons_succ]
      refine wpAnyH_take (i := 3) (oi := _) (v := ?_) rfl (by kernel_rfl) (by kernel_rfl) (by kernel_rfl) (fun _ _ _ h => h) (Or.inl ⟨by rfl, ?_⟩) (by assumption) ?_
      (rotate_left); (focus (intro wv hSw; (obtain ⟨qP, qQ, qO, qV, qB⟩ := hSw); obtain ⟨u0_, u1_, _, _, _⟩ := blk2 qP; obtain ⟨v0_, v1_, _, _, _⟩ := blk2 qQ; go_simp; (try with_reducible rfl)))
      try simp only [Act.put, List.getElem_toArray, List.getElem_cons_succ, List.getElem_cons_zero, List.setIfInBounds_toArray, List.set_cons_zero, List.set_cons_succ]
      refine wpAnyH_take (i := 4) (oi := _) (v := ?_) rfl (by kernel_rfl) (by kernel_rfl) (by kernel_rfl) (fun _ _ _ h => h) (Or.inl ⟨by rfl, ?_⟩) (by assumption) ?_
      (rotate_left); (focus (intro wv hSw; (obtain ⟨qP, qQ, qO, qV, qB⟩ := hSw); obtain ⟨u0_, u1_, _, _, _⟩ := blk2 qP; obtain ⟨v0_, v1_, _, _, _⟩ := blk2 qQ; go_simp; (try with_reducible rfl)))
      try simp only [Act.put, List.getElem_toArray, List.getElem_cons_succ, List.getElem_cons_zero, List.setIfInBounds_toArray, List.set_cons_zero, List.set_cons_succ]
      refine wpAnyH_take (i := 5) (oi := _) (v := ?_) rfl (by kernel_rfl) (by kernel_rfl) (by kernel_rfl) (fun _ _ _ h => h) (Or.inl ⟨by rfl, ?_⟩) (by assumption) ?_
      (rotate_left); (focus (intro wv hSw; (obtain ⟨qP, qQ, qO, qV, qB⟩ := hSw); obtain ⟨u0_, u1_, _, _, _⟩ := blk2 qP; obtain ⟨v0_, v1_, _, _, _⟩ := blk2 qQ; have cA := rowCel qO.row HKX.out HU.out; go_simp; (try with_reducible rfl)))
      try simp only [Act.put, List.getElem_toArray, List.getElem_cons_succ, List.getElem_cons_zero, List.setIfInBounds_toArray, List.set_cons_zero, List.set_cons_succ]
      refine wpAnyH_take (i := 6) (oi := _) (v := ?_) rfl (by kernel_rfl) (by kernel_rfl) (by kernel_rfl) (fun _ _ _ h => h) (Or.inl ⟨by rfl, ?_⟩) (by assumption) ?_
      (rotate_left); (focus (intro wv hSw; (obtain ⟨qP, qQ, qO, qV, qB⟩ := hSw); obtain ⟨u0_, u1_, _, _, _⟩ := blk2 qP; obtain ⟨v0_, v1_, _, _, _⟩ := blk2 qQ; have cA := rowCel qO.row HKX.out HU.out; go_simp; (try with_reducible rfl)))
      try simp only [Act.put, List.getElem_toArray, List.getElem_cons_succ, List.getElem_cons_zero, List.setIfInBounds_toArray, List.set_cons_zero, List.set_cons_succ]
      refine wpAnyH_ready (rs := [7, 11]) (by kernel_rfl) (by simp) ?_
      refine AllReadyH.cons (o := _) rfl (fun K hK => ?_) (AllReadyH.cons (o := _) rfl (fun K hK => ?_) AllReadyH.nil)
      · go_simp
        (go_at_call 23; refine (iCset_len d V cv l k u _ HQ.out hV_0.row (by omega) HRB.out HRD.out HRL.out HM.out).mono ?_; rintro e x0c ⟨W9, c9, rfl, hW_0c, hw_0c⟩)
        refine hK.out _ _ ⟨blk_next hP_0 hw_0c, blk_next hQ_0 hw_0c, hO_0.next hw_0c, hV_0.next hw_0c, bel_next hB_0 hw_0c⟩ (fun hHeld => ?_)
        clear hK K
        try simp only [Act.put, List.getElem_toArray, List.getElem_cons_succ, List.getElem_cons_zero, List.setIfInBounds_toArray, List.set_cons_zero, List.set_cons_succ]
        obtain ⟨hP_0c, hQ_0c, hO_0c, hV_0c, hB_0c⟩ := id hHeld
        have hW_0c := hW_0c.mono (base' := w.heap.size) hB_0.size
        refine wpAnyH_take (i := 8) (oi := _) (v := ?_) rfl (by kernel_rfl) (by kernel_rfl) (by kernel_rfl) (fun _ _ _ h => h) (Or.inl ⟨by rfl, ?_⟩) (by assumption) ?_
        (rotate_left); (focus (intro wv hSw; (obtain ⟨qP, qQ, qO, qV, qB⟩ := hSw); obtain ⟨u0_, u1_, _, _, _⟩ := blk2 qP; obtain ⟨v0_, v1_, _, _, _⟩ := blk2 qQ; go_simp; (try with_reducible rfl)))
        try simp only [Act.put, List.getElem_toArray, List.getElem_cons_succ, List.getElem_cons_zero, List.setIfInBounds_toArray, List.set_cons_zero, List.set_cons_succ]
        refine wpAnyH_take (i := 9) (oi := _) (v := ?_) rfl (by kernel_rfl) (by kernel_rfl) (by kernel_rfl) (fun _ _ _ h => h) (Or.inl ⟨by rfl, ?_⟩) (by assumption) ?_
        (rotate_left); (focus (intro wv hSw; (obtain ⟨qP, qQ, qO, qV, qB⟩ := hSw); obtain ⟨u0_, u1_, _, _, _⟩ := blk2 qP; obtain ⟨v0_, v1_, _, _, _⟩ := blk2 qQ; go_simp; (try with_reducible rfl)))
        try simp only [Act.put, List.getElem_toArray, List.getElem_cons_succ, List.getElem_cons_zero, List.setIfInBounds_toArray, List.set_cons_zero, List.set_cons_succ]
        refine wpAnyH_take (i := 10) (oi := _) (v := ?_) rfl (by kernel_rfl) (by kernel_rfl) (by kernel_rfl) (fun _ _ _ h => h) (Or.inl ⟨by rfl, ?_⟩) (by assumption) ?_
        (rotate_left); (focus (intro wv hSw; (obtain ⟨qP, qQ, qO, qV, qB⟩ := hSw); obtain ⟨u0_, u1_, _, _, _⟩ := blk2 qP; obtain ⟨v0_, v1_, _, _, _⟩ := blk2 qQ; go_simp; (try with_reducible rfl)))
        try simp only [Act.put, List.getElem_toArray, List.getElem_cons_succ, List.getElem_cons_zero, List.setIfInBounds_toArray, List.set_cons_zero, List.set_cons_succ]
        refine wpAnyH_ready (rs := [11]) (by kernel_rfl) (by simp) ?_
        refine AllReadyH.cons (o := _) rfl (fun K hK => ?_) AllReadyH.nil
        go_simp
        refine hK.out _ _ ⟨blk_next hP_0c (bel1 _ _), blk_next hQ_0c (bel1 _ _), hO_0c.next (bel1 _ _), hV_0c.next (bel1 _ _), bel_next hB_0c (bel1 _ _)⟩ (fun hHeld => ?_)
        clear hK K
        try simp only [Act.put, List.getElem_toArray, List.getElem_cons_succ, List.getElem_cons_zero, List.setIfInBounds_toArray, List.set_cons_zero, List.set_cons_succ]
        obtain ⟨hP_0ca, hQ_0ca, hO_0ca, hV_0ca, hB_0ca⟩ := id hHeld
        have hN_0ca : (x0c.alloc (.cells #[.int .i64 0, .slice none 0 0] 25)).heap[x0c.heap.size]? = some (.cells #[.int .i64 0, .slice none 0 0] 25) := by have := blk_new (x0c) (.cells #[.int .i64 0, .slice none 0 0] 25); simpa using this
        have zP_0ca : w1.heap.size < x0c.heap.size := by have := blk_lt hP_0c; simpa using this
        have zQ_0ca : w2.heap.size < x0c.heap.size := by have := blk_lt hQ_0c; simpa using this
        have zB_0ca : w.heap.size ≤ x0c.heap.size := by have := hB_0c.size; simpa using this
        have hW_0ca := hW_0c.next (bel1 (x0c) (.cells #[.int .i64 0, .slice none 0 0] 25))
        refine wpAnyH_ready (rs := [12]) (by kernel_rfl) (by simp) ?_
        refine AllReadyH.cons (o := _) rfl (fun K hK => ?_) AllReadyH.nil
        obtain ⟨sc0, sc1, sf0, sf1, sz_⟩ := blk2 hN_0ca
        go_simp
        refine hK.out _ _ ⟨blk_next hP_0c (bel1 _ _), blk_next hQ_0c (bel1 _ _), hO_0c.next (bel1 _ _), hV_0c.next (bel1 _ _), bel_next hB_0c (bel1 _ _)⟩ (fun hHeld => ?_)
        clear hK K
        try simp only [Act.put, List.getElem_toArray, List.getElem_cons_succ, List.getElem_cons_zero, List.setIfInBounds_toArray, List.set_cons_zero, List.set_cons_succ]
        obtain ⟨hP_0cw, hQ_0cw, hO_0cw, hV_0cw, hB_0cw⟩ := id hHeld
        have hN_0cw : (x0c.alloc (.cells #[.int .i64 d, .slice W9 m c9] 25)).heap[x0c.heap.size]? = some (.cells #[.int .i64 d, .slice W9 m c9] 25) := by have := blk_new (x0c) (.cells #[.int .i64 d, .slice W9 m c9] 25); simpa using this
        have hW_0cw := hW_0c.next (bel1 (x0c) (.cells #[.int .i64 d, .slice W9 m c9] 25))
        refine wpAnyH_take (i := 13) (oi := _) (v := ?_) rfl (by kernel_rfl) (by kernel_rfl) (by kernel_rfl) (fun _ _ _ h => h) (Or.inl ⟨by rfl, ?_⟩) (by assumption) ?_
        (rotate_left); (focus (intro wv hSw; (obtain ⟨qP, qQ, qO, qV, qB⟩ := hSw); obtain ⟨u0_, u1_, _, _, _⟩ := blk2 qP; obtain ⟨v0_, v1_, _, _, _⟩ := blk2 qQ; go_simp; (try with_reducible rfl)))
        try simp only [Act.put, List.getElem_toArray, List.getElem_cons_succ, List.getElem_cons_zero, List.setIfInBounds_toArray, List.set_cons_zero, List.set_cons_succ]
        refine wpAnyH_done (by kernel_rfl) ?_ _
        have hP9 := hP_0cw
        have hQ9 := hQ_0cw
        have hO9 := hO_0cw
        have hV9 := hV_0cw
        have hB9 := hB_0cw
        have hN9 := hN_0cw
        have hW9 := hW_0cw
        have hw1 := HW1.out
        have hw2 := HW2.out
        go_wp2_with fail
        refine wp_region_held_drew (S := (fun w' => w'.heap[w1.heap.size]? = some (.cells #[.int .i64 d, .slice (some ⟨b1, off1, none⟩) m cp] 25) ∧ w'.heap[w2.heap.size]? = some (.cells #[.int .i64 d, .slice V m cv] 25) ∧ w'.heap[x0c.heap.size]? = some (.cells #[.int .i64 d, .slice W9 m c9] 25) ∧ SOwn encNum w' w.heap.size 3 (some ⟨b1, off1, none⟩) cp xs ∧ SOwn encNum w' w.heap.size 3 V cv l ∧ SOwn encNum w' w.heap.size 3 W9 c9 xs ∧ Below w.heap.size w w')) (by kernel_rfl) ⟨hP9, hQ9, hN9, hO9.drew, hV9.drew, hW9.drew, hB9.drew⟩ (fun hHeld => ?_)
        obtain ⟨hP_0, hQ_0, hN_0, hO_0, hV_0, hW_0, hB_0⟩ := id hHeld
        refine wpAnyH_take (i := 0) (oi := _) (v := ?_) rfl (by kernel_rfl) (by kernel_rfl) (by kernel_rfl) (fun _ _ _ h => h) (Or.inl ⟨by rfl, ?_⟩) (by assumption) ?_
        (rotate_left); (focus (intro wv hSw; (obtain ⟨qP, qQ, qN, qO, qV, qW, qB⟩ := hSw); obtain ⟨u0_, u1_, _, _, _⟩ := blk2 qP; obtain ⟨v0_, v1_, _, _, _⟩ := blk2 qQ; obtain ⟨t0x_, t1x_, _, _, _⟩ := blk2 qN; go_simp; (try with_reducible rfl)))
        try simp only [Act.put, List.getElem_toArray, List.getElem_cons_succ, List.getElem_cons_zero, List.setIfInBounds_toArray, List.set_cons_zero, List.set_cons_succ]
        refine wpAnyH_ready (rs := [1]) (by kernel_rfl) (by simp) ?_
        refine AllReadyH.cons (o := _) rfl (fun K hK => ?_) AllReadyH.nil
        go_simp
        (go_at_call 13; refine (iCv_is d V cv l _ HQ.out hV_0.row (by omega) HCV.out).mono ?_; rintro e x0c ⟨rfl, hw_0c⟩)
        refine hK.out _ _ ⟨blk_next hP_0 hw_0c, blk_next hQ_0 hw_0c, blk_next hN_0 hw_0c, hO_0.next hw_0c, hV_0.next hw_0c, hW_0.next hw_0c, bel_next hB_0 hw_0c⟩ (fun hHeld => ?_)
        clear hK K
        try simp only [Act.put, List.getElem_toArray, List.getElem_cons_succ, List.getElem_cons_zero, List.setIfInBounds_toArray, List.set_cons_zero, List.set_cons_succ]
        obtain ⟨hP_0c, hQ_0c, hN_0c, hO_0c, hV_0c, hW_0c, hB_0c⟩ := id hHeld
        refine wpAnyH_take (i := 2) (oi := _) (v := ?_) rfl (by kernel_rfl) (by kernel_rfl) (by kernel_rfl) (fun _ _ _ h => h) (Or.inl ⟨by rfl, ?_⟩) (by assumption) ?_
        (rotate_left); (focus (intro wv hSw; (obtain ⟨qP, qQ, qN, qO, qV, qW, qB⟩ := hSw); obtain ⟨u0_, u1_, _, _, _⟩ := blk2 qP; obtain ⟨v0_, v1_, _, _, _⟩ := blk2 qQ; obtain ⟨t0x_, t1x_, _, _, _⟩ := blk2 qN; go_simp; (try with_reducible rfl)))
        try simp only [Act.put, List.getElem_toArray, List.getElem_cons_succ, List.getElem_cons_zero, List.setIfInBounds_toArray, List.set_cons_zero, List.set_cons_succ]
        refine wpAnyH_take (i := 3) (oi := _) (v := ?_) rfl (by kernel_rfl) (by kernel_rfl) (by kernel_rfl) (fun _ _ _ h => h) (Or.inl ⟨by rfl, ?_⟩) (by assumption) ?_
        (rotate_left); (focus (intro wv hSw; (obtain ⟨qP, qQ, qN, qO, qV, qW, qB⟩ := hSw); obtain ⟨u0_, u1_, _, _, _⟩ := blk2 qP; obtain ⟨v0_, v1_, _, _, _⟩ := blk2 qQ; obtain ⟨t0x_, t1x_, _, _, _⟩ := blk2 qN; go_simp; (try with_reducible rfl)))
        try simp only [Act.put, List.getElem_toArray, List.getElem_cons_succ, List.getElem_cons_zero, List.setIfInBounds_toArray, List.set_cons_zero, List.set_cons_succ]
        refine wpAnyH_take (i := 4) (oi := _) (v := ?_) rfl (by kernel_rfl) (by kernel_rfl) (by kernel_rfl) (fun _ _ _ h => h) (Or.inl ⟨by rfl, ?_⟩) (by assumption) ?_
        (rotate_left); (focus (intro wv hSw; (obtain ⟨qP, qQ, qN, qO, qV, qW, qB⟩ := hSw); obtain ⟨u0_, u1_, _, _, _⟩ := blk2 qP; obtain ⟨v0_, v1_, _, _, _⟩ := blk2 qQ; obtain ⟨t0x_, t1x_, _, _, _⟩ := blk2 qN; go_simp; (try with_reducible rfl)))
        try simp only [Act.put, List.getElem_toArray, List.getElem_cons_succ, List.getElem_cons_zero, List.setIfInBounds_toArray, List.set_cons_zero, List.set_cons_succ]
        refine wpAnyH_take (i := 5) (oi := _) (v := ?_) rfl (by kernel_rfl) (by kernel_rfl) (by kernel_rfl) (fun _ _ _ h => h) (Or.inl ⟨by rfl, ?_⟩) (by assumption) ?_
        (rotate_left); (focus (intro wv hSw; (obtain ⟨qP, qQ, qN, qO, qV, qW, qB⟩ := hSw); obtain ⟨u0_, u1_, _, _, _⟩ := blk2 qP; obtain ⟨v0_, v1_, _, _, _⟩ := blk2 qQ; obtain ⟨t0x_, t1x_, _, _, _⟩ := blk2 qN; go_simp; (try with_reducible rfl)))
        try simp only [Act.put, List.getElem_toArray, List.getElem_cons_succ, List.getElem_cons_zero, List.setIfInBounds_toArray, List.set_cons_zero, List.set_cons_succ]
        refine wpAnyH_take (i := 6) (oi := _) (v := ?_) rfl (by kernel_rfl) (by kernel_rfl) (by kernel_rfl) (fun _ _ _ h => h) (Or.inl ⟨by rfl, ?_⟩) (by assumption) ?_
        (rotate_left); (focus (intro wv hSw; (obtain ⟨qP, qQ, qN, qO, qV, qW, qB⟩ := hSw); obtain ⟨u0_, u1_, _, _, _⟩ := blk2 qP; obtain ⟨v0_, v1_, _, _, _⟩ := blk2 qQ; obtain ⟨t0x_, t1x_, _, _, _⟩ := blk2 qN; go_simp; (try with_reducible rfl)))
        try simp only [Act.put, List.getElem_toArray, List.getElem_cons_succ, List.getElem_cons_zero, List.setIfInBounds_toArray, List.set_cons_zero, List.set_cons_succ]
        refine wpAnyH_take (i := 7) (oi := _) (v := ?_) rfl (by kernel_rfl) (by kernel_rfl) (by kernel_rfl) (fun _ _ _ h => h) (Or.inl ⟨by rfl, ?_⟩) (by assumption) ?_
        (rotate_left); (focus (intro wv hSw; (obtain ⟨qP, qQ, qN, qO, qV, qW, qB⟩ := hSw); obtain ⟨u0_, u1_, _, _, _⟩ := blk2 qP; obtain ⟨v0_, v1_, _, _, _⟩ := blk2 qQ; obtain ⟨t0x_, t1x_, _, _, _⟩ := blk2 qN; go_simp; (try with_reducible rfl)))
        try simp only [Act.put, List.getElem_toArray, List.getElem_cons_succ, List.getElem_cons_zero, List.setIfInBounds_toArray, List.set_cons_zero, List.set_cons_succ]
        refine wpAnyH_ready (rs := [8]) (by kernel_rfl) (by simp) ?_
        refine AllReadyH.cons (o := _) rfl (fun K hK => ?_) AllReadyH.nil
        go_simp
        (go_at_call 35; refine (sameCity_is d W9 _ c9 cp xs HM.out hW_0c.row hO_0c.row (by omega)).mono ?_; rintro e x0cc ⟨rfl, hw_0cc⟩)
        refine hK.out _ _ ⟨blk_next hP_0c hw_0cc, blk_next hQ_0c hw_0cc, blk_next hN_0c hw_0cc, hO_0c.next hw_0cc, hV_0c.next hw_0cc, hW_0c.next hw_0cc, bel_next hB_0c hw_0cc⟩ (fun hHeld => ?_)
        clear hK K
        try simp only [Act.put, List.getElem_toArray, List.getElem_cons_succ, List.getElem_cons_zero, List.setIfInBounds_toArray, List.set_cons_zero, List.set_cons_succ]
        obtain ⟨hP_0cc, hQ_0cc, hN_0cc, hO_0cc, hV_0cc, hW_0cc, hB_0cc⟩ := id hHeld
        refine wpAnyH_take (i := 9) (oi := _) (v := ?_) rfl (by kernel_rfl) (by kernel_rfl) (by kernel_rfl) (fun _ _ _ h => h) (Or.inl ⟨by rfl, ?_⟩) (by assumption) ?_
        (rotate_left); (focus (intro wv hSw; (obtain ⟨qP, qQ, qN, qO, qV, qW, qB⟩ := hSw); obtain ⟨u0_, u1_, _, _, _⟩ := blk2 qP; obtain ⟨v0_, v1_, _, _, _⟩ := blk2 qQ; obtain ⟨t0x_, t1x_, _, _, _⟩ := blk2 qN; go_simp; (try with_reducible rfl)))
        try simp only [Act.put, List.getElem_toArray, List.getElem_cons_succ, List.getElem_cons_zero, List.setIfInBounds_toArray, List.set_cons_zero, List.set_cons_succ]
        refine wpAnyH_take (i := 10) (oi := _) (v := ?_) rfl (by kernel_rfl) (by kernel_rfl) (by kernel_rfl) (fun _ _ _ h => h) (Or.inl ⟨by rfl, ?_⟩) (by assumption) ?_
        (rotate_left); (focus (intro wv hSw; (obtain ⟨qP, qQ, qN, qO, qV, qW, qB⟩ := hSw); obtain ⟨u0_, u1_, _, _, _⟩ := blk2 qP; obtain ⟨v0_, v1_, _, _, _⟩ := blk2 qQ; obtain ⟨t0x_, t1x_, _, _, _⟩ := blk2 qN; go_simp; (try with_reducible rfl)))
        try simp only [Act.put, List.getElem_toArray, List.getElem_cons_succ, List.getElem_cons_zero, List.setIfInBounds_toArray, List.set_cons_zero, List.set_cons_succ]
        refine wpAnyH_take (i := 11) (oi := _) (v := ?_) rfl (by kernel_rfl) (by kernel_rfl) (by kernel_rfl) (fun _ _ _ h => h) (Or.inl ⟨by rfl, ?_⟩) (by assumption) ?_
        (rotate_left); (focus (intro wv hSw; (obtain ⟨qP, qQ, qN, qO, qV, qW, qB⟩ := hSw); obtain ⟨u0_, u1_, _, _, _⟩ := blk2 qP; obtain ⟨v0_, v1_, _, _, _⟩ := blk2 qQ; obtain ⟨t0x_, t1x_, _, _, _⟩ := blk2 qN; go_simp; (try with_reducible rfl)))
        try simp only [Act.put, List.getElem_toArray, List.getElem_cons_succ, List.getElem_cons_zero, List.setIfInBounds_toArray, List.set_cons_zero, List.set_cons_succ]
        refine wpAnyH_take (i := 13) (oi := _) (v := ?_) rfl (by kernel_rfl) (by kernel_rfl) (by kernel_rfl) (fun _ _ _ h => h) (Or.inl ⟨by rfl, ?_⟩) (by assumption) ?_
        (rotate_left); (focus (intro wv hSw; (obtain ⟨qP, qQ, qN, qO, qV, qW, qB⟩ := hSw); obtain ⟨u0_, u1_, _, _, _⟩ := blk2 qP; obtain ⟨v0_, v1_, _, _, _⟩ := blk2 qQ; obtain ⟨t0x_, t1x_, _, _, _⟩ := blk2 qN; go_simp; (try with_reducible rfl)))
        try simp only [Act.put, List.getElem_toArray, List.getElem_cons_succ, List.getElem_cons_zero, List.setIfInBounds_toArray, List.set_cons_zero, List.set_cons_succ]
        refine wpAnyH_take (i := 16) (oi := _) (v := ?_) rfl (by kernel_rfl) (by kernel_rfl) (by kernel_rfl) (fun _ _ _ h => h) (Or.inl ⟨by rfl, ?_⟩) (by assumption) ?_
        (rotate_left); (focus (intro wv hSw; (obtain ⟨qP, qQ, qN, qO, qV, qW, qB⟩ := hSw); obtain ⟨u0_, u1_, _, _, _⟩ := blk2 qP; obtain ⟨v0_, v1_, _, _, _⟩ := blk2 qQ; obtain ⟨t0x_, t1x_, _, _, _⟩ := blk2 qN; go_simp; (try with_reducible rfl)))
        try simp only [Act.put, List.getElem_toArray, List.getElem_cons_succ, List.getElem_cons_zero, List.setIfInBounds_toArray, List.set_cons_zero, List.set_cons_succ]
        refine wpAnyH_take (i := 17) (oi := _) (v := ?_) rfl (by kernel_rfl) (by kernel_rfl) (by kernel_rfl) (fun _ _ _ h => h) (Or.inl ⟨by rfl, ?_⟩) (by assumption) ?_
        (rotate_left); (focus (intro wv hSw; (obtain ⟨qP, qQ, qN, qO, qV, qW, qB⟩ := hSw); obtain ⟨u0_, u1_, _, _, _⟩ := blk2 qP; obtain ⟨v0_, v1_, _, _, _⟩ := blk2 qQ; obtain ⟨t0x_, t1x_, _, _, _⟩ := blk2 qN; go_simp; (try with_reducible rfl)))
        try simp only [Act.put, List.getElem_toArray, List.getElem_cons_succ, List.getElem_cons_zero, List.setIfInBounds_toArray, List.set_cons_zero, List.set_cons_succ]
        refine wpAnyH_take (i := 18) (oi := _) (v := ?_) rfl (by kernel_rfl) (by kernel_rfl) (by kernel_rfl) (fun _ _ _ h => h) (Or.inl ⟨by rfl, ?_⟩) (by assumption) ?_
        (rotate_left); (focus (intro wv hSw; (obtain ⟨qP, qQ, qN, qO, qV, qW, qB⟩ := hSw); obtain ⟨u0_, u1_, _, _, _⟩ := blk2 qP; obtain ⟨v0_, v1_, _, _, _⟩ := blk2 qQ; obtain ⟨t0x_, t1x_, _, _, _⟩ := blk2 qN; go_simp; (try with_reducible rfl)))
        try simp only [Act.put, List.getElem_toArray, List.getElem_cons_succ, List.getElem_cons_zero, List.setIfInBounds_toArray, List.set_cons_zero, List.set_cons_succ]
        refine wpAnyH_take (i := 19) (oi := _) (v := ?_) rfl (by kernel_rfl) (by kernel_rfl) (by kernel_rfl) (fun _ _ _ h => h) (Or.inl ⟨by rfl, ?_⟩) (by assumption) ?_
        (rotate_left); (focus (intro wv hSw; (obtain ⟨qP, qQ, qN, qO, qV, qW, qB⟩ := hSw); obtain ⟨u0_, u1_, _, _, _⟩ := blk2 qP; obtain ⟨v0_, v1_, _, _, _⟩ := blk2 qQ; obtain ⟨t0x_, t1x_, _, _, _⟩ := blk2 qN; go_simp; (try with_reducible rfl)))
        try simp only [Act.put, List.getElem_toArray, List.getElem_cons_succ, List.getElem_cons_zero, List.setIfInBounds_toArray, List.set_cons_zero, List.set_cons_succ]
        refine wpAnyH_take (i := 20) (oi := _) (v := ?_) rfl (by kernel_rfl) (by kernel_rfl) (by kernel_rfl) (fun _ _ _ h => h) (Or.inl ⟨by rfl, ?_⟩) (by assumption) ?_
        (rotate_left); (focus (intro wv hSw; (obtain ⟨qP, qQ, qN, qO, qV, qW, qB⟩ := hSw); obtain ⟨u0_, u1_, _, _, _⟩ := blk2 qP; obtain ⟨v0_, v1_, _, _, _⟩ := blk2 qQ; obtain ⟨t0x_, t1x_, _, _, _⟩ := blk2 qN; have cA := rowCel qO.row HKX.out HU.out; go_simp; (try with_reducible rfl)))
        try simp only [Act.put, List.getElem_toArray, List.getElem_cons_succ, List.getElem_cons_zero, List.setIfInBounds_toArray, List.set_cons_zero, List.set_cons_succ]
        refine wpAnyH_take (i := 21) (oi := _) (v := ?_) rfl (by kernel_rfl) (by kernel_rfl) (by kernel_rfl) (fun _ _ _ h => h) (Or.inl ⟨by rfl, ?_⟩) (by assumption) ?_
        (rotate_left); (focus (intro wv hSw; (obtain ⟨qP, qQ, qN, qO, qV, qW, qB⟩ := hSw); obtain ⟨u0_, u1_, _, _, _⟩ := blk2 qP; obtain ⟨v0_, v1_, _, _, _⟩ := blk2 qQ; obtain ⟨t0x_, t1x_, _, _, _⟩ := blk2 qN; have cA := rowCel qO.row HKX.out HU.out; go_simp; (try with_reducible rfl)))
        try simp only [Act.put, List.getElem_toArray, List.getElem_cons_succ, List.getElem_cons_zero, List.setIfInBounds_toArray, List.set_cons_zero, List.set_cons_succ]
        refine wpAnyH_take (i := 22) (oi := _) (v := ?_) rfl (by kernel_rfl) (by kernel_rfl) (by kernel_rfl) (fun _ _ _ h => h) (Or.inl ⟨by rfl, ?_⟩) (by assumption) ?_
        (rotate_left); (focus (intro wv hSw; (obtain ⟨qP, qQ, qN, qO, qV, qW, qB⟩ := hSw); obtain ⟨u0_, u1_, _, _, _⟩ := blk2 qP; obtain ⟨v0_, v1_, _, _, _⟩ := blk2 qQ; obtain ⟨t0x_, t1x_, _, _, _⟩ := blk2 qN; go_simp; (try with_reducible rfl)))
        try simp only [Act.put, List.getElem_toArray, List.getElem_cons_succ, List.getElem_cons_zero, List.setIfInBounds_toArray, List.set_cons_zero, List.set_cons_succ]
        refine wpAnyH_ready (rs := [12]) (by kernel_rfl) (by simp) ?_
        refine AllReadyH.cons (o := _) rfl (fun K hK => ?_) AllReadyH.nil
        go_simp
        (go_at_call 36; refine (iCs_is d V cv l _ HQ.out hV_0cc.row (by omega) HS1.out).mono ?_; rintro e x0ccc ⟨rfl, hw_0ccc⟩)
        refine hK.out _ _ ⟨blk_next hP_0cc hw_0ccc, blk_next hQ_0cc hw_0ccc, blk_next hN_0cc hw_0ccc, hO_0cc.next hw_0ccc, hV_0cc.next hw_0ccc, hW_0cc.next hw_0ccc, bel_next hB_0cc hw_0ccc⟩ (fun hHeld => ?_)
        clear hK K
        try simp only [Act.put, List.getElem_toArray, List.getElem_cons_succ, List.getElem_cons_zero, List.setIfInBounds_toArray, List.set_cons_zero, List.set_cons_succ]
        obtain ⟨hP_0ccc, hQ_0ccc, hN_0ccc, hO_0ccc, hV_0ccc, hW_0ccc, hB_0ccc⟩ := id hHeld
        refine wpAnyH_ready (rs := [14]) (by kernel_rfl) (by simp) ?_
        refine AllReadyH.cons (o := _) rfl (fun K hK => ?_) AllReadyH.nil
        go_simp
        (go_at_call 36; refine (iCs_is d _ cp xs _ HM.out hO_0ccc.row (by omega) HS0.out).mono ?_; rintro e x0cccc ⟨rfl, hw_0cccc⟩)
        refine hK.out _ _ ⟨blk_next hP_0ccc hw_0cccc, blk_next hQ_0ccc hw_0cccc, blk_next hN_0ccc hw_0cccc, hO_0ccc.next hw_0cccc, hV_0ccc.next hw_0cccc, hW_0ccc.next hw_0cccc, bel_next hB_0ccc hw_0cccc⟩ (fun hHeld => ?_)
        clear hK K
        try simp only [Act.put, List.getElem_toArray, List.getElem_cons_succ, List.getElem_cons_zero, List.setIfInBounds_toArray, List.set_cons_zero, List.set_cons_succ]
        obtain ⟨hP_0cccc, hQ_0cccc, hN_0cccc, hO_0cccc, hV_0cccc, hW_0cccc, hB_0cccc⟩ := id hHeld
        refine wpAnyH_take (i := 15) (oi := _) (v := ?_) rfl (by kernel_rfl) (by kernel_rfl) (by kernel_rfl) (fun _ _ _ h => h) (Or.inl ⟨by rfl, ?_⟩) (by assumption) ?_
        (rotate_left); (focus (intro wv hSw; (obtain ⟨qP, qQ, qN, qO, qV, qW, qB⟩ := hSw); obtain ⟨u0_, u1_, _, _, _⟩ := blk2 qP; obtain ⟨v0_, v1_, _, _, _⟩ := blk2 qQ; obtain ⟨t0x_, t1x_, _, _, _⟩ := blk2 qN; go_simp; (try with_reducible rfl)))
        try simp only [Act.put, List.getElem_toArray, List.getElem_cons_succ, List.getElem_cons_zero, List.setIfInBounds_toArray, List.set_cons_zero, List.set_cons_succ]
        refine wpAnyH_take (i := 23) (oi := _) (v := ?_) rfl (by kernel_rfl) (by kernel_rfl) (by kernel_rfl) (fun _ _ _ h => h) (Or.inl ⟨by rfl, ?_⟩) (by assumption) ?_
        (rotate_left); (focus (intro wv hSw; (obtain ⟨qP, qQ, qN, qO, qV, qW, qB⟩ := hSw); obtain ⟨u0_, u1_, _, _, _⟩ := blk2 qP; obtain ⟨v0_, v1_, _, _, _⟩ := blk2 qQ; obtain ⟨t0x_, t1x_, _, _, _⟩ := blk2 qN; go_simp; (try with_reducible rfl)))
        try simp only [Act.put, List.getElem_toArray, List.getElem_cons_succ, List.getElem_cons_zero, List.setIfInBounds_toArray, List.set_cons_zero, List.set_cons_succ]
        refine wpAnyH_take (i := 24) (oi := _) (v := ?_) rfl (by kernel_rfl) (by kernel_rfl) (by kernel_rfl) (fun _ _ _ h => h) (Or.inl ⟨by rfl, ?_⟩) (by assumption) ?_
        (rotate_left); (focus (intro wv hSw; (obtain ⟨qP, qQ, qN, qO, qV, qW, qB⟩ := hSw); obtain ⟨u0_, u1_, _, _, _⟩ := blk2 qP; obtain ⟨v0_, v1_, _, _, _⟩ := blk2 qQ; obtain ⟨t0x_, t1x_, _, _, _⟩ := blk2 qN; go_simp; (try with_reducible rfl)))
        try simp only [Act.put, List.getElem_toArray, List.getElem_cons_succ, List.getElem_cons_zero, List.setIfInBounds_toArray, List.set_cons_zero, List.set_cons_succ]
        refine wpAnyH_take (i := 25) (oi := _) (v := ?_) rfl (by kernel_rfl) (by kernel_rfl) (by kernel_rfl) (fun _ _ _ h => h) (Or.inl ⟨by rfl, ?_⟩) (by assumption) ?_
        (rotate_left); (focus (intro wv hSw; (obtain ⟨qP, qQ, qN, qO, qV, qW, qB⟩ := hSw); obtain ⟨u0_, u1_, _, _, _⟩ := blk2 qP; obtain ⟨v0_, v1_, _, _, _⟩ := blk2 qQ; obtain ⟨t0x_, t1x_, _, _, _⟩ := blk2 qN; go_simp; (try with_reducible rfl)))
        try simp only [Act.put, List.getElem_toArray, List.getElem_cons_succ, List.getElem_cons_zero, List.setIfInBounds_toArray, List.set_cons_zero, List.set_cons_succ]
        refine wpAnyH_done (by kernel_rfl) ?_ _
        clear hw1 hw2
        go_wp2_with fail
        go_ret
        exact ⟨rfl, hB_0cccc⟩
      · go_simp
        refine hK.out _ _ ⟨blk_next hP_0 (bel1 _ _), blk_next hQ_0 (bel1 _ _), hO_0.next (bel1 _ _), hV_0.next (bel1 _ _), bel_next hB_0 (bel1 _ _)⟩ (fun hHeld => ?_)
        clear hK K
        try simp only [Act.put, List.getElem_toArray, List.getElem_cons_succ, List.getElem_cons_zero, List.setIfInBounds_toArray, List.set_cons_zero, List.set_cons_succ]
        obtain ⟨hP_0a, hQ_0a, hO_0a, hV_0a, hB_0a⟩ := id hHeld
        have hN_0a : (w6.drew.alloc (.cells #[.int .i64 0, .slice none 0 0] 25)).heap[w6.heap.size]? = some (.cells #[.int .i64 0, .slice none 0 0] 25) := by have := blk_new (w6.drew) (.cells #[.int .i64 0, .slice none 0 0] 25); simpa using this
        have zP_0a : w1.heap.size < w6.heap.size := by have := blk_lt hP_0; simpa using this
        have zQ_0a : w2.heap.size < w6.heap.size := by have := blk_lt hQ_0; simpa using this
        have zB_0a : w.heap.size ≤ w6.heap.size := by have := hB_0.size; simpa using this
        refine wpAnyH_ready (rs := [7]) (by kernel_rfl) (by simp) ?_
        refine AllReadyH.cons (o := _) rfl (fun K hK => ?_) AllReadyH.nil
        go_simp
        (go_at_call 23; refine (iCset_len d V cv l k u _ HQ.out hV_0a.row (by omega) HRB.out HRD.out HRL.out HM.out).mono ?_; rintro e x0ac ⟨W9, c9, rfl, hW_0ac, hw_0ac⟩)
        refine hK.out _ _ ⟨blk_next hP_0a hw_0ac, blk_next hQ_0a hw_0ac, hO_0a.next hw_0ac, hV_0a.next hw_0ac, bel_next hB_0a hw_0ac⟩ (fun hHeld => ?_)
        clear hK K
        try simp only [Act.put, List.getElem_toArray, List.getElem_cons_succ, List.getElem_cons_zero, List.setIfInBounds_toArray, List.set_cons_zero, List.set_cons_succ]
        obtain ⟨hP_0ac, hQ_0ac, hO_0ac, hV_0ac, hB_0ac⟩ := id hHeld
        have hW_0ac := hW_0ac.mono (base' := w.heap.size) hB_0a.size
        have hN_0ac := blk_next hN_0a hw_0ac
        refine wpAnyH_take (i := 8) (oi := _) (v := ?_) rfl (by kernel_rfl) (by kernel_rfl) (by kernel_rfl) (fun _ _ _ h => h) (Or.inl ⟨by rfl, ?_⟩) (by assumption) ?_
        (rotate_left); (focus (intro wv hSw; (obtain ⟨qP, qQ, qO, qV, qB⟩ := hSw); obtain ⟨u0_, u1_, _, _, _⟩ := blk2 qP; obtain ⟨v0_, v1_, _, _, _⟩ := blk2 qQ; go_simp; (try with_reducible rfl)))
        try simp only [Act.put, List.getElem_toArray, List.getElem_cons_succ, List.getElem_cons_zero, List.setIfInBounds_toArray, List.set_cons_zero, List.set_cons_succ]
        refine wpAnyH_take (i := 9) (oi := _) (v := ?_) rfl (by kernel_rfl) (by kernel_rfl) (by kernel_rfl) (fun _ _ _ h => h) (Or.inl ⟨by rfl, ?_⟩) (by assumption) ?_
        (rotate_left); (focus (intro wv hSw; (obtain ⟨qP, qQ, qO, qV, qB⟩ := hSw); obtain ⟨u0_, u1_, _, _, _⟩ := blk2 qP; obtain ⟨v0_, v1_, _, _, _⟩ := blk2 qQ; go_simp; (try with_reducible rfl)))
        try simp only [Act.put, List.getElem_toArray, List.getElem_cons_succ, List.getElem_cons_zero, List.setIfInBounds_toArray, List.set_cons_zero, List.set_cons_succ]
        refine wpAnyH_take (i := 10) (oi := _) (v := ?_) rfl (by kernel_rfl) (by kernel_rfl) (by kernel_rfl) (fun _ _ _ h => h) (Or.inl ⟨by rfl, ?_⟩) (by assumption) ?_
        (rotate_left); (focus (intro wv hSw; (obtain ⟨qP, qQ, qO, qV, qB⟩ := hSw); obtain ⟨u0_, u1_, _, _, _⟩ := blk2 qP; obtain ⟨v0_, v1_, _, _, _⟩ := blk2 qQ; go_simp; (try with_reducible rfl)))
        try simp only [Act.put, List.getElem_toArray, List.getElem_cons_succ, List.getElem_cons_zero, List.setIfInBounds_toArray, List.set_cons_zero, List.set_cons_succ]
        refine wpAnyH_ready (rs := [12]) (by kernel_rfl) (by simp) ?_
        refine AllReadyH.cons (o := _) rfl (fun K hK => ?_) AllReadyH.nil
        obtain ⟨sc0, sc1, sf0, sf1, sz_⟩ := blk2 hN_0ac
        go_simp
        refine hK.out _ _ ⟨blk_store2 hP_0ac (Nat.ne_of_lt zP_0a) _ _, blk_store2 hQ_0ac (Nat.ne_of_lt zQ_0a) _ _, SOwn.boxO hO_0ac hN_0ac (by decide) _ _, SOwn.boxO hV_0ac hN_0ac (by decide) _ _, store2_bel hB_0ac zB_0a _ _⟩ (fun hHeld => ?_)
        clear hK K
        try simp only [Act.put, List.getElem_toArray, List.getElem_cons_succ, List.getElem_cons_zero, List.setIfInBounds_toArray, List.set_cons_zero, List.set_cons_succ]
        obtain ⟨hP_0acw, hQ_0acw, hO_0acw, hV_0acw, hB_0acw⟩ := id hHeld
        have hN_0acw := blk2_set (a := (.int .i64 d)) (b := (.slice W9 m c9)) hN_0ac
        have hW_0acw := SOwn.boxO hW_0ac hN_0ac (by decide) ((.int .i64 d)) ((.slice W9 m c9))
        refine wpAnyH_take (i := 13) (oi := _) (v := ?_) rfl (by kernel_rfl) (by kernel_rfl) (by kernel_rfl) (fun _ _ _ h => h) (Or.inl ⟨by rfl, ?_⟩) (by assumption) ?_
        (rotate_left); (focus (intro wv hSw; (obtain ⟨qP, qQ, qO, qV, qB⟩ := hSw); obtain ⟨u0_, u1_, _, _, _⟩ := blk2 qP; obtain ⟨v0_, v1_, _, _, _⟩ := blk2 qQ; go_simp; (try with_reducible rfl)))
        try simp only [Act.put, List.getElem_toArray, List.getElem_cons_succ, List.getElem_cons_zero, List.setIfInBounds_toArray, List.set_cons_zero, List.set_cons_succ]
        refine wpAnyH_done (by kernel_rfl) ?_ _
        have hP9 := hP_0acw
        have hQ9 := hQ_0acw
        have hO9 := hO_0acw
        have hV9 := hV_0acw
        have hB9 := hB_0acw
        have hN9 := hN_0acw
        have hW9 := hW_0acw
        have hw1 := HW1.out
        have hw2 := HW2.out
        go_wp2_with fail
        refine wp_region_held_drew (S := (fun w' => w'.heap[w1.heap.size]? = some (.cells #[.int .i64 d, .slice (some ⟨b1, off1, none⟩) m cp] 25) ∧ w'.heap[w2.heap.size]? = some (.cells #[.int .i64 d, .slice V m cv] 25) ∧ w'.heap[w6.heap.size]? = some (.cells #[.int .i64 d, .slice W9 m c9] 25) ∧ SOwn encNum w' w.heap.size 3 (some ⟨b1, off1, none⟩) cp xs ∧ SOwn encNum w' w.heap.size 3 V cv l ∧ SOwn encNum w' w.heap.size 3 W9 c9 xs ∧ Below w.heap.size w w')) (by kernel_rfl) ⟨hP9, hQ9, hN9, hO9.drew, hV9.drew, hW9.drew, hB9.drew⟩ (fun hHeld => ?_)
        obtain ⟨hP_0, hQ_0, hN_0, hO_0, hV_0, hW_0, hB_0⟩ := id hHeld
        refine wpAnyH_take (i := 0) (oi := _) (v := ?_) rfl (by kernel_rfl) (by kernel_rfl) (by kernel_rfl) (fun _ _ _ h => h) (Or.inl ⟨by rfl, ?_⟩) (by assumption) ?_
        (rotate_left); (focus (intro wv hSw; (obtain ⟨qP, qQ, qN, qO, qV, qW, qB⟩ := hSw); obtain ⟨u0_, u1_, _, _, _⟩ := blk2 qP; obtain ⟨v0_, v1_, _, _, _⟩ := blk2 qQ; obtain ⟨t0x_, t1x_, _, _, _⟩ := blk2 qN; go_simp; (try with_reducible rfl)))
        try simp only [Act.put, List.getElem_toArray, List.getElem_cons_succ, List.getElem_cons_zero, List.setIfInBounds_toArray, List.set_cons_zero, List.set_cons_succ]
        refine wpAnyH_ready (rs := [1]) (by kernel_rfl) (by simp) ?_
        refine AllReadyH.cons (o := _) rfl (fun K hK => ?_) AllReadyH.nil
        go_simp
        (go_at_call 13; refine (iCv_is d V cv l _ HQ.out hV_0.row (by omega) HCV.out).mono ?_; rintro e x0c ⟨rfl, hw_0c⟩)
        refine hK.out _ _ ⟨blk_next hP_0 hw_0c, blk_next hQ_0 hw_0c, blk_next hN_0 hw_0c, hO_0.next hw_0c, hV_0.next hw_0c, hW_0.next hw_0c, bel_next hB_0 hw_0c⟩ (fun hHeld => ?_)
        clear hK K
        try simp only [Act.put, List.getElem_toArray, List.getElem_cons_succ, List.getElem_cons_zero, List.setIfInBounds_toArray, List.set_cons_zero, List.set_cons_succ]
        obtain ⟨hP_0c, hQ_0c, hN_0c, hO_0c, hV_0c, hW_0c, hB_0c⟩ := id hHeld
        refine wpAnyH_take (i := 2) (oi := _) (v := ?_) rfl (by kernel_rfl) (by kernel_rfl) (by kernel_rfl) (fun _ _ _ h => h) (Or.inl ⟨by rfl, ?_⟩) (by assumption) ?_
        (rotate_left); (focus (intro wv hSw; (obtain ⟨qP, qQ, qN, qO, qV, qW, qB⟩ := hSw); obtain ⟨u0_, u1_, _, _, _⟩ := blk2 qP; obtain ⟨v0_, v1_, _, _, _⟩ := blk2 qQ; obtain ⟨t0x_, t1x_, _, _, _⟩ := blk2 qN; go_simp; (try with_reducible rfl)))
        try simp only [Act.put, List.getElem_toArray, List.getElem_cons_succ, List.getElem_cons_zero, List.setIfInBounds_toArray, List.set_cons_zero, List.set_cons_succ]
        refine wpAnyH_take (i := 3) (oi := _) (v := ?_) rfl (by kernel_rfl) (by kernel_rfl) (by kernel_rfl) (fun _ _ _ h => h) (Or.inl ⟨by rfl, ?_⟩) (by assumption) ?_
        (rotate_left); (focus (intro wv hSw; (obtain ⟨qP, qQ, qN, qO, qV, qW, qB⟩ := hSw); obtain ⟨u0_, u1_, _, _, _⟩ := blk2 qP; obtain ⟨v0_, v1_, _, _, _⟩ := blk2 qQ; obtain ⟨t0x_, t1x_, _, _, _⟩ := blk2 qN; go_simp; (try with_reducible rfl)))
        try simp only [Act.put, List.getElem_toArray, List.getElem_cons_succ, List.getElem_cons_zero, List.setIfInBounds_toArray, List.set_cons_zero, List.set_cons_succ]
        refine wpAnyH_take (i := 4) (oi := _) (v := ?_) rfl (by kernel_rfl) (by kernel_rfl) (by kernel_rfl) (fun _ _ _ h => h) (Or.inl ⟨by rfl, ?_⟩) (by assumption) ?_
        (rotate_left); (focus (intro wv hSw; (obtain ⟨qP, qQ, qN, qO, qV, qW, qB⟩ := hSw); obtain ⟨u0_, u1_, _, _, _⟩ := blk2 qP; obtain ⟨v0_, v1_, _, _, _⟩ := blk2 qQ; obtain ⟨t0x_, t1x_, _, _, _⟩ := blk2 qN; go_simp; (try with_reducible rfl)))
        try simp only [Act.put, List.getElem_toArray, List.getElem_cons_succ, List.getElem_cons_zero, List.setIfInBounds_toArray, List.set_cons_zero, List.set_cons_succ]
        refine wpAnyH_take (i := 5) (oi := _) (v := ?_) rfl (by kernel_rfl) (by kernel_rfl) (by kernel_rfl) (fun _ _ _ h => h) (Or.inl ⟨by rfl, ?_⟩) (by assumption) ?_
        (rotate_left); (focus (intro wv hSw; (obtain ⟨qP, qQ, qN, qO, qV, qW, qB⟩ := hSw); obtain ⟨u0_, u1_, _, _, _⟩ := blk2 qP; obtain ⟨v0_, v1_, _, _, _⟩ := blk2 qQ; obtain ⟨t0x_, t1x_, _, _, _⟩ := blk2 qN; go_simp; (try with_reducible rfl)))
        try simp only [Act.put, List.getElem_toArray, List.getElem_cons_succ, List.getElem_cons_zero, List.setIfInBounds_toArray, List.set_cons_zero, List.set_cons_succ]
        refine wpAnyH_take (i := 6) (oi := _) (v := ?_) rfl (by kernel_rfl) (by kernel_rfl) (by kernel_rfl) (fun _ _ _ h => h) (Or.inl ⟨by rfl, ?_⟩) (by assumption) ?_
        (rotate_left); (focus (intro wv hSw; (obtain ⟨qP, qQ, qN, qO, qV, qW, qB⟩ := hSw); obtain ⟨u0_, u1_, _, _, _⟩ := blk2 qP; obtain ⟨v0_, v1_, _, _, _⟩ := blk2 qQ; obtain ⟨t0x_, t1x_, _, _, _⟩ := blk2 qN; go_simp; (try with_reducible rfl)))
        try simp only [Act.put, List.getElem_toArray, List.getElem_cons_succ, List.getElem_cons_zero, List.setIfInBounds_toArray, List.set_cons_zero, List.set_cons_succ]
        refine wpAnyH_take (i := 7) (oi := _) (v := ?_) rfl (by kernel_rfl) (by kernel_rfl) (by kernel_rfl) (fun _ _ _ h => h) (Or.inl ⟨by rfl, ?_⟩) (by assumption) ?_
        (rotate_left); (focus (intro wv hSw; (obtain ⟨qP, qQ, qN, qO, qV, qW, qB⟩ := hSw); obtain ⟨u0_, u1_, _, _, _⟩ := blk2 qP; obtain ⟨v0_, v1_, _, _, _⟩ := blk2 qQ; obtain ⟨t0x_, t1x_, _, _, _⟩ := blk2 qN; go_simp; (try with_reducible rfl)))
        try simp only [Act.put, List.getElem_toArray, List.getElem_cons_succ, List.getElem_cons_zero, List.setIfInBounds_toArray, List.set_cons_zero, List.set_cons_succ]
        refine wpAnyH_ready (rs := [8]) (by kernel_rfl) (by simp) ?_
        refine AllReadyH.cons (o := _) rfl (fun K hK => ?_) AllReadyH.nil
        go_simp
        (go_at_call 35; refine (sameCity_is d W9 _ c9 cp xs HM.out hW_0c.row hO_0c.row (by omega)).mono ?_; rintro e x0cc ⟨rfl, hw_0cc⟩)
        refine hK.out _ _ ⟨blk_next hP_0c hw_0cc, blk_next hQ_0c hw_0cc, blk_next hN_0c hw_0cc, hO_0c.next hw_0cc, hV_0c.next hw_0cc, hW_0c.next hw_0cc, bel_next hB_0c hw_0cc⟩ (fun hHeld => ?_)
        clear hK K
        try simp only [Act.put, List.getElem_toArray, List.getElem_cons_succ, List.getElem_cons_zero, List.setIfInBounds_toArray, List.set_cons_zero, List.set_cons_succ]
        obtain ⟨hP_0cc, hQ_0cc, hN_0cc, hO_0cc, hV_0cc, hW_0cc, hB_0cc⟩ := id hHeld
        refine wpAnyH_take (i := 9) (oi := _) (v := ?_) rfl (by kernel_rfl) (by kernel_rfl) (by kernel_rfl) (fun _ _ _ h => h) (Or.inl ⟨by rfl, ?_⟩) (by assumption) ?_
        (rotate_left); (focus (intro wv hSw; (obtain ⟨qP, qQ, qN, qO, qV, qW, qB⟩ := hSw); obtain ⟨u0_, u1_, _, _, _⟩ := blk2 qP; obtain ⟨v0_, v1_, _, _, _⟩ := blk2 qQ; obtain ⟨t0x_, t1x_, _, _, _⟩ := blk2 qN; go_simp; (try with_reducible rfl)))
        try simp only [Act.put, List.getElem_toArray, List.getElem_cons_succ, List.getElem_cons_zero, List.setIfInBounds_toArray, List.set_cons_zero, List.set_cons_succ]
        refine wpAnyH_take (i := 10) (oi := _) (v := ?_) rfl (by kernel_rfl) (by kernel_rfl) (by kernel_rfl) (fun _ _ _ h => h) (Or.inl ⟨by rfl, ?_⟩) (by assumption) ?_
        (rotate_left); (focus (intro wv hSw; (obtain ⟨qP, qQ, qN, qO, qV, qW, qB⟩ := hSw); obtain ⟨u0_, u1_, _, _, _⟩ := blk2 qP; obtain ⟨v0_, v1_, _, _, _⟩ := blk2 qQ; obtain ⟨t0x_, t1x_, _, _, _⟩ := blk2 qN; go_simp; (try with_reducible rfl)))
        try simp only [Act.put, List.getElem_toArray, List.getElem_cons_succ, List.getElem_cons_zero, List.setIfInBounds_toArray, List.set_cons_zero, List.set_cons_succ]
        refine wpAnyH_take (i := 11) (oi := _) (v := ?_) rfl (by kernel_rfl) (by kernel_rfl) (by kernel_rfl) (fun _ _ _ h => h) (Or.inl ⟨by rfl, ?_⟩) (by assumption) ?_
        (rotate_left); (focus (intro wv hSw; (obtain ⟨qP, qQ, qN, qO, qV, qW, qB⟩ := hSw); obtain ⟨u0_, u1_, _, _, _⟩ := blk2 qP; obtain ⟨v0_, v1_, _, _, _⟩ := blk2 qQ; obtain ⟨t0x_, t1x_, _, _, _⟩ := blk2 qN; go_simp; (try with_reducible rfl)))
        try simp only [Act.put, List.getElem_toArray, List.getElem_cons_succ, List.getElem_cons_zero, List.setIfInBounds_toArray, List.set_cons_zero, List.set_cons_succ]
        refine wpAnyH_take (i := 13) (oi := _) (v := ?_) rfl (by kernel_rfl) (by kernel_rfl) (by kernel_rfl) (fun _ _ _ h => h) (Or.inl ⟨by rfl, ?_⟩) (by assumption) ?_
        (rotate_left); (focus (intro wv hSw; (obtain ⟨qP, qQ, qN, qO, qV, qW, qB⟩ := hSw); obtain ⟨u0_, u1_, _, _, _⟩ := blk2 qP; obtain ⟨v0_, v1_, _, _, _⟩ := blk2 qQ; obtain ⟨t0x_, t1x_, _, _, _⟩ := blk2 qN; go_simp; (try with_reducible rfl)))
        try simp only [Act.put, List.getElem_toArray, List.getElem_cons_succ, List.getElem_cons_zero, List.setIfInBounds_toArray, List.set_cons_zero, List.set_cons_succ]
        refine wpAnyH_take (i := 16) (oi := _) (v := ?_) rfl (by kernel_rfl) (by kernel_rfl) (by kernel_rfl) (fun _ _ _ h => h) (Or.inl ⟨by rfl, ?_⟩) (by assumption) ?_
        (rotate_left); (focus (intro wv hSw; (obtain ⟨qP, qQ, qN, qO, qV, qW, qB⟩ := hSw); obtain ⟨u0_, u1_, _, _, _⟩ := blk2 qP; obtain ⟨v0_, v1_, _, _, _⟩ := blk2 qQ; obtain ⟨t0x_, t1x_, _, _, _⟩ := blk2 qN; go_simp; (try with_reducible rfl)))
        try simp only [Act.put, List.getElem_toArray, List.getElem_cons_succ, List.getElem_cons_zero, List.setIfInBounds_toArray, List.set_cons_zero, List.set_cons_succ]
        refine wpAnyH_take (i := 17) (oi := _) (v := ?_) rfl (by kernel_rfl) (by kernel_rfl) (by kernel_rfl) (fun _ _ _ h => h) (Or.inl ⟨by rfl, ?_⟩) (by assumption) ?_
        (rotate_left); (focus (intro wv hSw; (obtain ⟨qP, qQ, qN, qO, qV, qW, qB⟩ := hSw); obtain ⟨u0_, u1_, _, _, _⟩ := blk2 qP; obtain ⟨v0_, v1_, _, _, _⟩ := blk2 qQ; obtain ⟨t0x_, t1x_, _, _, _⟩ := blk2 qN; go_simp; (try with_reducible rfl)))
        try simp only [Act.put, List.getElem_toArray, List.getElem_cons_succ, List.getElem_cons_zero, List.setIfInBounds_toArray, List.set_cons_zero, List.set_cons_succ]
        refine wpAnyH_take (i := 18) (oi := _) (v := ?_) rfl (by kernel_rfl) (by kernel_rfl) (by kernel_rfl) (fun _ _ _ h => h) (Or.inl ⟨by rfl, ?_⟩) (by assumption) ?_
        (rotate_left); (focus (intro wv hSw; (obtain ⟨qP, qQ, qN, qO, qV, qW, qB⟩ := hSw); obtain ⟨u0_, u1_, _, _, _⟩ := blk2 qP; obtain ⟨v0_, v1_, _, _, _⟩ := blk2 qQ; obtain ⟨t0x_, t1x_, _, _, _⟩ := blk2 qN; go_simp; (try with_reducible rfl)))
        try simp only [Act.put, List.getElem_toArray, List.getElem_cons_succ, List.getElem_cons_zero, List.setIfInBounds_toArray, List.set_cons_zero, List.set_cons_succ]
        refine wpAnyH_take (i := 19) (oi := _) (v := ?_) rfl (by kernel_rfl) (by kernel_rfl) (by kernel_rfl) (fun _ _ _ h => h) (Or.inl ⟨by rfl, ?_⟩) (by assumption) ?_
        (rotate_left); (focus (intro wv hSw; (obtain ⟨qP, qQ, qN, qO, qV, qW, qB⟩ := hSw); obtain ⟨u0_, u1_, _, _, _⟩ := blk2 qP; obtain ⟨v0_, v1_, _, _, _⟩ := blk2 qQ; obtain ⟨t0x_, t1x_, _, _, _⟩ := blk2 qN; go_simp; (try with_reducible rfl)))
        try simp only [Act.put, List.getElem_toArray, List.getElem_cons_succ, List.getElem_cons_zero, List.setIfInBounds_toArray, List.set_cons_zero, List.set_cons_succ]
        refine wpAnyH_take (i := 20) (oi := _) (v := ?_) rfl (by kernel_rfl) (by kernel_rfl) (by kernel_rfl) (fun _ _ _ h => h) (Or.inl ⟨by rfl, ?_⟩) (by assumption) ?_
        (rotate_left); (focus (intro wv hSw; (obtain ⟨qP, qQ, qN, qO, qV, qW, qB⟩ := hSw); obtain ⟨u0_, u1_, _, _, _⟩ := blk2 qP; obtain ⟨v0_, v1_, _, _, _⟩ := blk2 qQ; obtain ⟨t0x_, t1x_, _, _, _⟩ := blk2 qN; have cA := rowCel qO.row HKX.out HU.out; go_simp; (try with_reducible rfl)))
        try simp only [Act.put, List.getElem_toArray, List.getElem_cons_succ, List.getElem_cons_zero, List.setIfInBounds_toArray, List.set_cons_zero, List.set_cons_succ]
        refine wpAnyH_take (i := 21) (oi := _) (v := ?_) rfl (by kernel_rfl) (by kernel_rfl) (by kernel_rfl) (fun _ _ _ h => h) (Or.inl ⟨by rfl, ?_⟩) (by assumption) ?_
        (rotate_left); (focus (intro wv hSw; (obtain ⟨qP, qQ, qN, qO, qV, qW, qB⟩ := hSw); obtain ⟨u0_, u1_, _, _, _⟩ := blk2 qP; obtain ⟨v0_, v1_, _, _, _⟩ := blk2 qQ; obtain ⟨t0x_, t1x_, _, _, _⟩ := blk2 qN; have cA := rowCel qO.row HKX.out HU.out; go_simp; (try with_reducible rfl)))
        try simp only [Act.put, List.getElem_toArray, List.getElem_cons_succ, List.getElem_cons_zero, List.setIfInBounds_toArray, List.set_cons_zero, List.set_cons_succ]
        refine wpAnyH_take (i := 22) (oi := _) (v := ?_) rfl (by kernel_rfl) (by kernel_rfl) (by kernel_rfl) (fun _ _ _ h => h) (Or.inl ⟨by rfl, ?_⟩) (by assumption) ?_
        (rotate_left); (focus (intro wv hSw; (obtain ⟨qP, qQ, qN, qO, qV, qW, qB⟩ := hSw); obtain ⟨u0_, u1_, _, _, _⟩ := blk2 qP; obtain ⟨v0_, v1_, _, _, _⟩ := blk2 qQ; obtain ⟨t0x_, t1x_, _, _, _⟩ := blk2 qN; go_simp; (try with_reducible rfl)))
        try simp only [Act.put, List.getElem_toArray, List.getElem_cons_succ, List.getElem_cons_zero, List.setIfInBounds_toArray, List.set_cons_zero, List.set_cons_succ]
        refine wpAnyH_ready (rs := [12]) (by kernel_rfl) (by simp) ?_
        refine AllReadyH.cons (o := _) rfl (fun K hK => ?_) AllReadyH.nil
        go_simp
        (go_at_call 36; refine (iCs_is d V cv l _ HQ.out hV_0cc.row (by omega) HS1.out).mono ?_; rintro e x0ccc ⟨rfl, hw_0ccc⟩)
        refine hK.out _ _ ⟨blk_next hP_0cc hw_0ccc, blk_next hQ_0cc hw_0ccc, blk_next hN_0cc hw_0ccc, hO_0cc.next hw_0ccc, hV_0cc.next hw_0ccc, hW_0cc.next hw_0ccc, bel_next hB_0cc hw_0ccc⟩ (fun hHeld => ?_)
        clear hK K
        try simp only [Act.put, List.getElem_toArray, List.getElem_cons_succ, List.getElem_cons_zero, List.setIfInBounds_toArray, List.set_cons_zero, List.set_cons_succ]
        obtain ⟨hP_0ccc, hQ_0ccc, hN_0ccc, hO_0ccc, hV_0ccc, hW_0ccc, hB_0ccc⟩ := id hHeld
        refine wpAnyH_ready (rs := [14]) (by kernel_rfl) (by simp) ?_
        refine AllReadyH.cons (o := _) rfl (fun K hK => ?_) AllReadyH.nil
        go_simp
        (go_at_call 36; refine (iCs_is d _ cp xs _ HM.out hO_0ccc.row (by omega) HS0.out).mono ?_; rintro e x0cccc ⟨rfl, hw_0cccc⟩)
        refine hK.out _ _ ⟨blk_next hP_0ccc hw_0cccc, blk_next hQ_0ccc hw_0cccc, blk_next hN_0ccc hw_0cccc, hO_0ccc.next hw_0cccc, hV_0ccc.next hw_0cccc, hW_0ccc.next hw_0cccc, bel_next hB_0ccc hw_0cccc⟩ (fun hHeld => ?_)
        clear hK K
        try simp only [Act.put, List.getElem_toArray, List.getElem_cons_succ, List.getElem_cons_zero, List.setIfInBounds_toArray, List.set_cons_zero, List.set_cons_succ]
        obtain ⟨hP_0cccc, hQ_0cccc, hN_0cccc, hO_0cccc, hV_0cccc, hW_0cccc, hB_0cccc⟩ := id hHeld
        refine wpAnyH_take (i := 15) (oi := _) (v := ?_) rfl (by kernel_rfl) (by kernel_rfl) (by kernel_rfl) (fun _ _ _ h => h) (Or.inl ⟨by rfl, ?_⟩) (by assumption) ?_
        (rotate_left); (focus (intro wv hSw; (obtain ⟨qP, qQ, qN, qO, qV, qW, qB⟩ := hSw); obtain ⟨u0_, u1_, _, _, _⟩ := blk2 qP; obtain ⟨v0_, v1_, _, _, _⟩ := blk2 qQ; obtain ⟨t0x_, t1x_, _, _, _⟩ := blk2 qN; go_simp; (try with_reducible rfl)))
        try simp only [Act.put, List.getElem_toArray, List.getElem_cons_succ, List.getElem_cons_zero, List.setIfInBounds_toArray, List.set_cons_zero, List.set_cons_succ]
        refine wpAnyH_take (i := 23) (oi := _) (v := ?_) rfl (by kernel_rfl) (by kernel_rfl) (by kernel_rfl) (fun _ _ _ h => h) (Or.inl ⟨by rfl, ?_⟩) (by assumption) ?_
        (rotate_left); (focus (intro wv hSw; (obtain ⟨qP, qQ, qN, qO, qV, qW, qB⟩ := hSw); obtain ⟨u0_, u1_, _, _, _⟩ := blk2 qP; obtain ⟨v0_, v1_, _, _, _⟩ := blk2 qQ; obtain ⟨t0x_, t1x_, _, _, _⟩ := blk2 qN; go_simp; (try with_reducible rfl)))
        try simp only [Act.put, List.getElem_toArray, List.getElem_cons_succ, List.getElem_cons_zero, List.setIfInBounds_toArray, List.set_cons_zero, List.set_cons_succ]
        refine wpAnyH_take (i := 24) (oi := _) (v := ?_) rfl (by kernel_rfl) (by kernel_rfl) (by kernel_rfl) (fun _ _ _ h => h) (Or.inl ⟨by rfl, ?_⟩) (by assumption) ?_
        (rotate_left); (focus (intro wv hSw; (obtain ⟨qP, qQ, qN, qO, qV, qW, qB⟩ := hSw); obtain ⟨u0_, u1_, _, _, _⟩ := blk2 qP; obtain ⟨v0_, v1_, _, _, _⟩ := blk2 qQ; obtain ⟨t0x_, t1x_, _, _, _⟩ := blk2 qN; go_simp; (try with_reducible rfl)))
        try simp only [Act.put, List.getElem_toArray, List.getElem_cons_succ, List.getElem_cons_zero, List.setIfInBounds_toArray, List.set_cons_zero, List.set_cons_succ]
        refine wpAnyH_take (i := 25) (oi := _) (v := ?_) rfl (by kernel_rfl) (by kernel_rfl) (by kernel_rfl) (fun _ _ _ h => h) (Or.inl ⟨by rfl, ?_⟩) (by assumption) ?_
        (rotate_left); (focus (intro wv hSw; (obtain ⟨qP, qQ, qN, qO, qV, qW, qB⟩ := hSw); obtain ⟨u0_, u1_, _, _, _⟩ := blk2 qP; obtain ⟨v0_, v1_, _, _, _⟩ := blk2 qQ; obtain ⟨t0x_, t1x_, _, _, _⟩ := blk2 qN; go_simp; (try with_reducible rfl)))
        try simp only [Act.put, List.getElem_toArray, List.getElem_cons_succ, List.getElem_cons_zero, List.setIfInBounds_toArray, List.set_cons_zero, List.set_cons_succ]
        refine wpAnyH_done (by kernel_rfl) ?_ _
        clear hw1 hw2
        go_wp2_with fail
        go_ret
        exact ⟨rfl, hB_0cccc⟩

set_option maxRecDepth 100000 in
theorem lifted (os : Os) (started : os.Started) (H : Type) (enc : TypeId × Value → H) :
    ReturnsInHanded {} Try.checked os 8 .any (Rows.fnCitySetSpec.pre6 enc Try.prog Try.f8 Rows.fnCitySetRow.domain false) (Rows.fnCitySetSpec.post enc Try.prog Try.f8 false true false false) := by
  refine returnsInHanded_of_change (C := Try.checked) own started (by kernel_rfl) Try.func8
    (ChangeSpec.witness6 (enc := enc) (C := Try.checked) false ⟨#[], #[.slice none 0 0], []⟩ 8 (by kernel_rfl) (by kernel_rfl) (by kernel_rfl) (by kernel_rfl)) ?_
  intro W base args ds gs before hval0 hW hcnd _
  have hval : ∀ (j : Nat) t v, Try.f8.params[j]? = some t → args[j]? = some v → Value.okWide Try.prog W .any base t v := hval0
  have hW' := hW
  obtain ⟨p, q, hA0, hV, rfl, hfz, hnd⟩ := hW
  have hA : DataW.TrodAll enc Try.prog W 0 (fun _ => true) true Try.f8.params.toList args.toList ds p := hA0
  rw [Try.params8] at hA hval
  obtain ⟨v0, vs0, d0, ds0, p0, q0, hargs, rfl, rfl, h0, r0⟩ := trodAll_cons hA
  obtain ⟨rfl, rfl, rfl⟩ := trodAll_nil r0
  obtain rfl : args = #[v0] := by cases args; simp_all
  obtain ⟨rfl, rfl⟩ := trodVars_none hV
  have k0 := h0
  have lt0 : ∀ x ∈ p0, x.block < W.heap.size := by obtain ⟨m, hm⟩ := k0; exact DataW.trod_lt m _ _ _ hm
  obtain ⟨a0, len0, cap0, rfl⟩ := okWide_slice Try.underlying22 (hval 0 22 v0 rfl rfl)
  have w0 : CodeOk W a0 len0 cap0 := by
    obtain ⟨fuel, hf⟩ := h0
    rcases open_ints Try.underlying22 Try.underlying5 (by kernel_rfl) hf with ⟨hcs, _⟩ | ⟨x, l, c, zs, hcs, _, hl, hm, hz, _, hcell, hwz⟩
    · simp [Value.cells] at hcs
      obtain ⟨rfl, rfl, rfl⟩ := hcs
      exact code_nil W
    · simp [Value.cells] at hcs
      obtain ⟨rfl, rfl, rfl⟩ := hcs
      exact code_ok hl hm (by simp at hz; omega) hcell hwz
  clear hA0 hval0
  refine (walk W a0 len0 cap0 w0).mono fun e W' ⟨he, bel⟩ => ?_
  subst he
  exact ⟨_, rfl, _, _, _, [], _, [], hW', trodAll_mk1 (shut_bool Try.underlying4 _), (trodAll_cons_mk (Below.trod laidOut (by kernel_rfl) (of_decide_eq_true (by kernel_rfl)) k0 bel lt0) trodAll_mk0), rfl, bel.frame _, fun h => by cases h⟩

theorem over : Rows.fnCitySetRow.holds Try.pinned (OpenSpec.ofChange Rows.fnCitySetSpec) :=
  OpenClaim.holds_of_wide 8 Try.f8 rfl rfl rfl rfl rfl rfl rfl ⟨rfl, rfl, rfl, rfl, rfl⟩ rfl rfl rfl rfl rfl (by kernel_rfl) Try.func8 (by kernel_rfl)
    (of_decide_eq_true (by kernel_rfl)) (by unfold Func.isWrapper; first | (rw [if_pos (by decide +kernel)]; kernel_rfl) | (rw [if_neg (by decide +kernel)]; exact ⟨rfl, rfl⟩))
    (fun os started H enc _ => lifted os started H enc)

/-- The statement. -/
theorem proved : Rows.FnCitySetSaid :=
  over
#print axioms proved
end Go.Proofs.Ytidppabconifkaa.fnCitySet
